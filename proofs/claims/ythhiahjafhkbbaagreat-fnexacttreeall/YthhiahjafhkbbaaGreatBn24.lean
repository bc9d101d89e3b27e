/-
  The laws' own helpers over a run (its size, its copy, that two are the same), by walks of their Go text.
-/
import Derived.Test.YthhiahjafhkbbaaGreatBn23
import Derived.Test.YthhiahjafhkbbaaGreatBn02
namespace Go.Proofs.YthhiahjafhkbbaaGreat
open Go.RowKit

set_option maxHeartbeats 400000 in
theorem szRun_any (m : Int) (a : Option Addr) (len cap : Nat) (L : List EntD) (left : Int) (w : World) (hL : EntsAt w a len cap L) (h0 : 0 ≤ left) (h1 : left ≤ 1048576) :
    Calls Tryz.prog 127 #[.agg #[.slice a len cap, .int .i64 m], .int .i64 left] w fun e w' => ∃ r : Int, e = .returned (.int .i64 r) ∧ (r = -1 ∨ (0 ≤ r ∧ r ≤ left ∧ (len : Int) ≤ left)) ∧ Below w.heap.size w w' := by
  have hL1 : EntsAt (w.alloc (.cells #[.slice a len cap, .int .i64 m] 175)) a len cap L := hL.keep ((Below.refl _ _).alloc (Nat.le_refl _) _)
  go_enter Tryz.func127, Tryz.ntmps127
  go_wp2_with (go_at_call 49; refine (szEntS_any _ _ _ _ _ _ hL1 h0 h1).mono ?_; rintro e w1 ⟨r, rfl, hr, hb1⟩)
  · go_ret
    exact ⟨-1, rfl, Or.inl rfl, ((Below.refl _ _).alloc (Nat.le_refl _) _).trans (hb1.mono (by simp))⟩
  · go_ret
    exact ⟨r, rfl, hr, ((Below.refl _ _).alloc (Nat.le_refl _) _).trans (hb1.mono (by simp))⟩

set_option maxHeartbeats 400000 in
theorem toRun_any (m : Int) (a : Option Addr) (len cap : Nat) (L : List EntD) (w : World) (hL : EntsAt w a len cap L) (hbig : len ≤ 1048576) :
    Calls Tryz.prog 132 #[.agg #[.slice a len cap, .int .i64 m]] w fun e w' => ∃ b, e = .returned (.agg #[.slice (some ⟨b, 0, none⟩) len len, .int .i64 m]) ∧ w.heap.size ≤ b ∧ b < w'.heap.size ∧ EntsAt w' (some ⟨b, 0, none⟩) len len L ∧ Below w.heap.size w w' := by
  go_enter Tryz.func132, Tryz.ntmps132
  go_wp2_with fail
  refine (toEntS_any _ _ _ L _ (hL.keep ?_) hbig).mono ?_
  · exact (((Below.refl _ _).alloc (Nat.le_refl _) _).alloc (by simp) _).alloc (by simp; omega) _
  rintro e w1 ⟨rfl, hL1, hlt1, hb1⟩
  simp only [World.size_alloc] at hlt1
  obtain ⟨hc1, hf1⟩ := bcell hb1
  have hz := hb1.size
  simp at hz
  have HL1 : Hid (EntsAt w1 (some ⟨w.heap.size + 1 + 1 + 1, 0, none⟩) len len L) := by simpa [Hid] using hL1
  have HZ : Hid (w.heap.size + 1 + 1 + 1 < w1.heap.size) := hlt1
  clear hL1 hlt1
  go_wp2
  refine bodyPost_ret (v := .agg #[.slice (some ⟨w.heap.size + 1 + 1 + 1, 0, none⟩) len len, .int .i64 m]) (by simp [results, Tryz.results132, go_sem, hc1]) rfl ⟨w.heap.size + 1 + 1 + 1, rfl, by omega, by simpa [World.setCell] using HZ.out, ?_, ?_⟩
  · refine ((((HL1.out.setCell _ _ ?_).setCell _ _ ?_).setCell _ _ ?_).setCell _ _ ?_) <;> (rintro x e _; cases e; simp; try omega)
  · have hB : Below w.heap.size w w1 := ((((Below.refl _ _).alloc (Nat.le_refl _) _).alloc (by simp) _).alloc (by simp; omega) _).trans (hb1.mono (by simp; omega))
    exact ((((hB.setCell (p := ⟨w.heap.size + 1 + 1, 0, none⟩) (by simp; omega) _).setCell (p := ⟨w.heap.size + 1 + 1, 1, none⟩) (by simp; omega) _).setCell (p := ⟨w.heap.size + 1, 0, none⟩) (by simp) _).setCell (p := ⟨w.heap.size + 1, 1, none⟩) (by simp) _)
end Go.Proofs.YthhiahjafhkbbaaGreat
