/-
  The walk of the law FnExactKeyOk: it answers true at every text.
-/
import Derived.Test.YtpaknibaeieobaaKey
namespace Go.Proofs.Ytpaknibaeieobaa
open Go.RowKit

set_option maxHeartbeats 400000 in
theorem walkFnExactKeyOk (a0 : ByteArray) (w : World) (w0 : a0.size ≤ maxLen) :
    Calls Try.prog 3 #[.string a0] w fun e w' => e = .returned (.bool true) ∧ Below w.heap.size w w' := by
  have hs : a0.size ≤ 2 ^ 63 - 1 := w0
  by_cases hbig : 1048576 < a0.size
  · go_enter Try.func3, Try.ntmps3
    go_wp2
    go_ret
    exact ⟨rfl, Below.refl _ _⟩
  · go_enter Try.func3, Try.ntmps3
    go_wp2_with (first
      | (go_at_call 15; refine (specKey _ _ w0).mono ?_; rintro e w' ⟨rfl, rfl⟩)
      | (go_at_call 16; refine (implKey _ _ w0).mono ?_; rintro e w1 ⟨rfl, rfl⟩))
    go_ret
    exact ⟨rfl, Below.refl _ _⟩

end Go.Proofs.Ytpaknibaeieobaa
