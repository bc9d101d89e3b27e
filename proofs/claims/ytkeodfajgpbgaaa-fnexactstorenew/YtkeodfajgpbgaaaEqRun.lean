/-
  That two runs are the same, by a walk of the laws' Go text.
-/
import Derived.Test.YtkeodfajgpbgaaaLawEnts
namespace Go.Proofs.Ytkeodfajgpbgaaa
open Go.RowKit

set_option maxHeartbeats 800000 in
theorem eqRun_same (m : Int) (b1 o1 b2 o2 len cap1 cap2 : Nat) (L : List EntD) (w : World) (h1 : EntsAt w (some ⟨b1, o1, none⟩) len cap1 L) (h2 : EntsAt w (some ⟨b2, o2, none⟩) len cap2 L) :
    Calls Try.prog 201 #[.agg #[.slice (some ⟨b1, o1, none⟩) len cap1, .int .i64 m], .agg #[.slice (some ⟨b2, o2, none⟩) len cap2, .int .i64 m]] w fun e w' => e = .returned (.bool true) ∧ Below w.heap.size w w' := by
  have hB : Below w.heap.size w ((w.alloc (.cells #[.slice (some ⟨b1, o1, none⟩) len cap1, .int .i64 m] 100)).alloc (.cells #[.slice (some ⟨b2, o2, none⟩) len cap2, .int .i64 m] 100)) := ((Below.refl _ _).alloc (Nat.le_refl _) _).alloc (by simp) _
  go_enter Try.func201, Try.ntmps201
  go_wp2_with (go_at_call 50; refine (eqEntS_same _ _ _ _ _ _ _ L _ (h1.keep hB) (h2.keep hB)).mono ?_; rintro e w1 ⟨rfl, hb1⟩; obtain ⟨hc1, hf1⟩ := bcell hb1)
  go_ret
  exact ⟨rfl, hB.trans (hb1.mono (by simp; omega))⟩
end Go.Proofs.Ytkeodfajgpbgaaa
