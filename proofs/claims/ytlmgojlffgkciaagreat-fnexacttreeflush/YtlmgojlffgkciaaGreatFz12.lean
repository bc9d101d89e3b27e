/-
  The laws' copy of a run, in memory of the call's own, by a walk of their Go text.
-/
import Derived.Test.YtlmgojlffgkciaaGreatFz01
import Derived.Test.YtlmgojlffgkciaaGreatFz07
namespace Go.Proofs.YtlmgojlffgkciaaGreat
open Go.RowKit
set_option maxHeartbeats 400000 in
theorem toRun_own (m : Int) (a : Option Addr) (len cap : Nat) (L : List EntD) (w : World) (hL : EntsAt w a len cap L) (hbig : len ≤ 1048576) :
    Calls Tryz.prog 120 #[.agg #[.slice a len cap, .int .i64 m]] w fun e w' => ∃ b, e = .returned (.agg #[.slice (some ⟨b, 0, none⟩) len len, .int .i64 m]) ∧ w.heap.size ≤ b ∧ b < w'.heap.size ∧ OwnE w' w.heap.size b len len L ∧ Below w.heap.size w w' := by
  go_enter Tryz.func120, Tryz.ntmps120
  go_wp2_with fail
  refine (toEntS_own _ _ _ L _ (hL.keep ?_) hbig).mono ?_
  · exact (((Below.refl _ _).alloc (Nat.le_refl _) _).alloc (by simp) _).alloc (by simp; omega) _
  rintro e w1 ⟨rfl, hL1, hlt1, hb1⟩
  simp only [World.size_alloc] at hlt1
  obtain ⟨hc1, hf1⟩ := bcell hb1
  have hz := hb1.size
  simp at hz
  have HL1 : Hid (OwnE w1 w.heap.size (w.heap.size + 1 + 1 + 1) len len L) := by
    have := hL1.mono (base' := w.heap.size) (by simp; omega)
    simpa [Hid] using this
  have HZ : Hid (w.heap.size + 1 + 1 + 1 < w1.heap.size) := hlt1
  clear hL1 hlt1
  go_wp2
  refine bodyPost_ret (v := .agg #[.slice (some ⟨w.heap.size + 1 + 1 + 1, 0, none⟩) len len, .int .i64 m]) (by simp [results, Tryz.results120, go_sem, hc1]) rfl ⟨w.heap.size + 1 + 1 + 1, rfl, by omega, by simpa [World.setCell] using HZ.out, ?_, ?_⟩
  · refine ((((HL1.out.setCell ?_ _).setCell ?_ _).setCell ?_ _).setCell ?_ _) <;> (simp; try omega)
  · have hB : Below w.heap.size w w1 := ((((Below.refl _ _).alloc (Nat.le_refl _) _).alloc (by simp) _).alloc (by simp; omega) _).trans (hb1.mono (by simp; omega))
    exact ((((hB.setCell (p := ⟨w.heap.size + 1 + 1, 0, none⟩) (by simp; omega) _).setCell (p := ⟨w.heap.size + 1 + 1, 1, none⟩) (by simp; omega) _).setCell (p := ⟨w.heap.size + 1, 0, none⟩) (by simp) _).setCell (p := ⟨w.heap.size + 1, 1, none⟩) (by simp) _)
end Go.Proofs.YtlmgojlffgkciaaGreat
