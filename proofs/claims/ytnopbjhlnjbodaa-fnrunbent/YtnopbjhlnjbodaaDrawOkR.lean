/-
  The run that the law FnRunBent draws, by a walk of its Go text.
-/
import Derived.Test.YtnopbjhlnjbodaaDrawMay
namespace Go.Proofs.Ytnopbjhlnjbodaa
open Go.RowKit

/-- A run that has been drawn from bytes. -/
def OkR (w : World) (e : Ending) (w' : World) : Prop :=
  ∃ (g n c : Nat) (m : Int) (L : List EntD), e = .returned (.agg #[.slice (some ⟨g, 0, none⟩) n c, .int .i64 m]) ∧ OwnE w' w.heap.size g n c L ∧ n ≤ 13 ∧ AllF L ∧ (Lit.int .i64 m).wf = true ∧ Below w.heap.size w w'

set_option maxRecDepth 100000 in
set_option maxHeartbeats 1000000 in
theorem drawOkR_any (a : Option Addr) (len cap : Nat) (w : World) (hb : BytesAt w a len cap) :
    Calls Try.prog 14 #[.slice a len cap] w (OkR w) := by
  have kA : Below w.heap.size w (w.alloc (.cells #[.slice none 0 0, .int .i64 0] 25)) := (Below.refl _ _).alloc (Nat.le_refl _) _
  obtain ⟨hc1, hc2, hc3⟩ := hb
  have hc3' : len = 0 ∨ ∃ b off, a = some ⟨b, off, none⟩ ∧ b < (w.alloc (.cells #[.slice none 0 0, .int .i64 0] 25)).heap.size ∧ ∀ i, i < len → ∃ z : Nat, z ≤ 255 ∧ (w.alloc (.cells #[.slice none 0 0, .int .i64 0] 25)).cell? ⟨b, off + i, none⟩ = some (.int .u8 z) := by
    rcases hc3 with h0 | ⟨b, off, ha, hb1, hcc⟩
    · exact Or.inl h0
    · exact Or.inr ⟨b, off, ha, Nat.lt_of_lt_of_le hb1 kA.size, fun i hi => by obtain ⟨z, hz, hzc⟩ := hcc i hi; exact ⟨z, hz, cell_later kA hzc⟩⟩
  go_enter Try.func14, Try.ntmps14
  go_wp2_with fail
  refine (l9Open_any a len cap _ hc1 hc2 hc3').mono ?_
  rintro e w1 ⟨len', rfl, hR1, hb1, hsz1⟩
  obtain ⟨X, hX⟩ : ∃ X, X = w.heap.size := ⟨_, rfl⟩
  obtain ⟨R, hR⟩ : ∃ R, R = (w.alloc (.cells #[.slice none 0 0, .int .i64 0] 25)).heap.size := ⟨_, rfl⟩
  rw [← hR] at hR1
  rw [← hR, ← hX]
  have hRX : R = X + 1 := by rw [hR, hX]; simp
  have x1 : w1.cell? ⟨X, 0, none⟩ = some (.slice none 0 0) := cell_later hb1 (by rw [hX]; simp)
  have y1 : w1.cell? ⟨X, 1, none⟩ = some (.int .i64 0) := cell_later hb1 (by rw [hX]; simp)
  have f1 : ∀ o, w1.frozen? ⟨X, o, none⟩ = false := fun o => (hb1.frozen (p := ⟨X, o, none⟩) (by rw [hX]; simp)).trans (by rw [hX]; exact World.frozen?_alloc_new w _ _ o)
  have HB1 : Hid (Below w.heap.size w w1) := kA.trans (hb1.mono kA.size)
  have HLX : Hid (∀ b off, a = some ⟨b, off, none⟩ → 0 < len' → b ≠ X) := fun b off ha hp e => by
    subst e
    rcases hR1.bytes with h0 | ⟨b2, off2, ha2, _, _, hcc⟩
    · omega
    · rw [ha] at ha2
      cases ha2
      obtain ⟨z, _, hz⟩ := hcc 0 hp
      rw [Nat.add_zero] at hz
      match off, hz with
      | 0, hz => rw [x1] at hz; cases hz
      | 1, hz => rw [y1] at hz; cases hz
      | o + 2, hz =>
        have hnone : w1.cell? ⟨b, o + 2, none⟩ = none := (hb1.cell (p := ⟨b, o + 2, none⟩) (by rw [hX]; simp)).trans (by rw [hX]; simp)
        rw [hnone] at hz
        cases hz
  have low : Low a len' R := by
    rcases hR1.bytes with h0 | ⟨b, off, ha, h1, h2, _⟩
    · exact Or.inl h0
    · exact Or.inr (fun b' off' e => by rw [ha] at e; cases e; omega)
  have hXw : w.heap.size ≤ X := by omega
  have hXltR : X < R := by omega
  clear kA hc1 hc2 hc3 hc3' hb1 hR hX hRX hsz1
  have HLOW : Hid (Low a len' R) := low
  have HR1 : Hid (RdAt w1 R a len' cap 0) := hR1
  clear low hR1
  have zX1 := World.block_lt_of_cell? _ _ x1
  simp only at zX1
  go_wp2_with fail
  refine (l4Draw_any R 0 a len' cap w1 HR1.out HLOW.out (by omega)).mono ?_
  rintro e w2 ⟨g, n, c, P2, m, L, rfl, hO2, hn, hF, hm, hR2, hP2, hG2⟩
  have hz2 := hG2.size
  have hXR : X ≠ R := by omega
  have x2 := (grown_cell hG2 (x := ⟨X, 0, none⟩) zX1 hXR).trans x1
  have y2 := (grown_cell hG2 (x := ⟨X, 1, none⟩) zX1 hXR).trans y1
  have f2 : ∀ o, w2.frozen? ⟨X, o, none⟩ = false := fun o => (grown_frozen hG2 (x := ⟨X, o, none⟩) zX1 (fun e => hXR (by cases e; rfl))).trans (f1 o)
  have hRl := HR1.out.lt
  have hg1 := hO2.lt.1
  have HB2 : Hid (Below w.heap.size w w2) := HB1.out.grown hG2 HB1.out.size (fun k e => by cases e; omega)
  have HF : Hid (AllF L) := hF
  have HM : Hid ((Lit.int .i64 m).wf = true) := hm
  have HO2 : Hid (OwnE w2 w.heap.size g n c L) := hO2.mono HB1.out.size
  have zX2 := World.block_lt_of_cell? _ _ x2
  simp only at zX2
  have f20 := f2 0
  have f21 := f2 1
  have hgX : g ≠ X := by omega
  clear hg1 hRl hz2 hR2 hG2 hO2 hm hF HR1 HLOW HLX HB1 x1 y1 f1 zX1 f2 hXltR hXR
  go_wp2
  refine bodyPost_ret (v := .agg #[.slice (some ⟨g, 0, none⟩) n c, .int .i64 m]) (by simp [results, Try.results14, go_sem, x2, y2]) rfl ?_
  exact ⟨g, n, c, m, L, rfl, (HO2.out.setCell (p := ⟨X, 0, none⟩) (Ne.symm hgX) _).setCell (p := ⟨X, 1, none⟩) (Ne.symm hgX) _, hn, HF.out, HM.out, (HB2.out.setCell (p := ⟨X, 0, none⟩) hXw _).setCell (p := ⟨X, 1, none⟩) hXw _⟩
end Go.Proofs.Ytnopbjhlnjbodaa
