/-
  The walk of the law FnExactEntryOk: it answers true at every entry.
-/
import Derived.Test.YtpaknibaeieobaaEntI
import Derived.Test.YtpaknibaeieobaaEntS
import Derived.Test.YtpaknibaeieobaaLawEnt
namespace Go.Proofs.Ytpaknibaeieobaa
open Go.RowKit

set_option maxHeartbeats 400000 in
theorem walkFnExactEntryOk (a0 : EntD) (w : World) (w0 : EntW a0) :
    Calls Try.prog 4 #[.agg #[.string a0.1, .int .i64 a0.2.1, .int .i64 a0.2.2.1, .string a0.2.2.2.1, .int .i64 a0.2.2.2.2]] w fun e w' => e = .returned (.bool true) ∧ Below w.heap.size w w' := by
  obtain ⟨k, q, d, t, n⟩ := a0
  obtain ⟨hk, _, _, ht, _⟩ := w0
  simp only at hk ht ⊢
  have hk' := hk
  have ht' := ht
  unfold maxLen at hk' ht'
  by_cases hbig : 1048576 < k.size + t.size
  · go_enter Try.func4, Try.ntmps4
    go_wp2_with (go_at_call 17; refine (szEnt_no _ _ _ _ _ _ _ hk ht (by omega) (by omega) (by omega)).mono ?_; rintro e w1 ⟨rfl, hb1⟩; obtain ⟨hc1, hf1⟩ := bcell hb1)
    go_ret
    exact ⟨rfl, ((Below.refl _ _).alloc (Nat.le_refl _) _).trans (hb1.mono (by simp))⟩
  · go_enter Try.func4, Try.ntmps4
    go_wp2_with fail
    refine (szEnt_yes _ _ _ _ _ _ _ (by omega) (by omega)).mono ?_
    rintro e w1 ⟨rfl, hb1⟩
    obtain ⟨hc1, hf1⟩ := bcell hb1
    have hz1 : w.heap.size < w1.heap.size := by have := hb1.size; simp at this; omega
    go_wp2_with fail
    refine (toEnt_any _ _ _ _ _ _).mono ?_
    rintro e w2 ⟨rfl, hb2⟩
    obtain ⟨hc2, hf2⟩ := bcell hb2
    have hz2 : w.heap.size < w2.heap.size := by have := hb2.size; omega
    go_wp2_with fail
    refine (specEnt _ _ _ _ _ _ hk ht).mono ?_
    rintro e w3 ⟨rfl, hb3⟩
    obtain ⟨hc3, hf3⟩ := bcell hb3
    have hz3 : w.heap.size < w3.heap.size := by have := hb3.size; omega
    go_wp2_with fail
    refine (toEnt_any _ _ _ _ _ _).mono ?_
    rintro e w4 ⟨rfl, hb4⟩
    obtain ⟨hc4, hf4⟩ := bcell hb4
    have hz4 : w.heap.size < w4.heap.size := by have := hb4.size; omega
    go_wp2_with fail
    refine (implEnt _ _ _ _ _ _ hk).mono ?_
    rintro e w5 ⟨rfl, hb5⟩
    obtain ⟨hc5, hf5⟩ := bcell hb5
    go_wp2
    go_ret
    exact ⟨rfl, (((((Below.refl _ _).alloc (Nat.le_refl _) _).trans (hb1.mono (by simp))).trans (hb2.mono (by omega))).trans (hb3.mono (by omega))).trans ((hb4.mono (by omega)).trans (hb5.mono (by omega)))⟩

end Go.Proofs.Ytpaknibaeieobaa
