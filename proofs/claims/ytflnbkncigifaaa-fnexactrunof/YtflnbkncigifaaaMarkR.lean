/-
  A run of the call's own, or the empty one: marked, held against its marks, and held against another, by walks of the laws' Go text.
-/
import Derived.Test.YtflnbkncigifaaaOwnO
import Derived.Test.YtflnbkncigifaaaEqRun
namespace Go.Proofs.Ytflnbkncigifaaa
open Go.RowKit

set_option maxHeartbeats 800000 in
theorem markRunO (base : Nat) (a : Option Addr) (n c : Nat) (m : Int) (L : List EntD) (w : World) (hO : OwnO w base a n c L) (hn : 1 + 5 * n ≤ 1000000000) :
    Calls Try.prog 15 #[.agg #[.slice a n c, .int .i64 m], .int .i64 1] w fun e w' => e = .returned (.int .i64 ((1 + 5 * n : Nat) : Int)) ∧ OwnO w' base a n c (markL 1 n) ∧ w.grownBy w' (a.map Addr.block) := by
  have kA : Below w.heap.size w (w.alloc (.cells #[.slice a n c, .int .i64 m] 26)) := (Below.refl _ _).alloc (Nat.le_refl _) _
  have C := markO_any base a n c L _ (hO.below kA) hn
  go_enter Try.func15, Try.ntmps15
  go_wp2_with fail
  refine C.mono ?_
  rintro e w1 ⟨rfl, h3, h4⟩
  have H3 : Hid (OwnO w1 base a n c (markL 1 n)) := h3
  have HG : Hid (w.grownBy w1 (a.map Addr.block)) := ⟨h4.os.trans kA.os, h4.tape.trans kA.tape, h4.output.trans kA.output, Nat.le_trans kA.size h4.size, fun q hq hne => (h4.block q (Nat.lt_of_lt_of_le hq kA.size) hne).trans (kA.block q hq)⟩
  clear h3 h4 C kA hO
  go_wp2
  go_ret
  exact ⟨rfl, H3.out, HG.out⟩
set_option maxHeartbeats 800000 in
theorem heldRunO (base : Nat) (a : Option Addr) (n c : Nat) (m : Int) (w : World) (hO : OwnO w base a n c (markL 1 n)) (hn : 1 + 5 * n ≤ 1000000000) :
    Calls Try.prog 16 #[.agg #[.slice a n c, .int .i64 m], .int .i64 1] w fun e w' => e = .returned (.int .i64 ((1 + 5 * n : Nat) : Int)) ∧ Below w.heap.size w w' := by
  have kA : Below w.heap.size w (w.alloc (.cells #[.slice a n c, .int .i64 m] 26)) := (Below.refl _ _).alloc (Nat.le_refl _) _
  have C := heldO_any base a n c _ (hO.below kA) hn
  go_enter Try.func16, Try.ntmps16
  go_wp2_with fail
  refine C.mono ?_
  rintro e w1 ⟨rfl, hb⟩
  have HB : Hid (Below w.heap.size w w1) := kA.trans (hb.mono kA.size)
  clear hb C kA hO
  have hp : ¬ ((1 + 5 * n : Nat) : Int) < 0 := by omega
  go_wp2
  go_ret
  exact ⟨rfl, HB.out⟩
set_option maxHeartbeats 800000 in
theorem eqRunO (m : Int) (a1 a2 : Option Addr) (len cap1 cap2 : Nat) (L : List EntD) (w : World) (h1 : EntsAt w a1 len cap1 L) (h2 : EntsAt w a2 len cap2 L) :
    Calls Try.prog 12 #[.agg #[.slice a1 len cap1, .int .i64 m], .agg #[.slice a2 len cap2, .int .i64 m]] w fun e w' => e = .returned (.bool true) ∧ Below w.heap.size w w' := by
  have hB : Below w.heap.size w ((w.alloc (.cells #[.slice a1 len cap1, .int .i64 m] 26)).alloc (.cells #[.slice a2 len cap2, .int .i64 m] 26)) := ((Below.refl _ _).alloc (Nat.le_refl _) _).alloc (by simp) _
  go_enter Try.func12, Try.ntmps12
  go_wp2_with (go_at_call 13; refine (eqEntS_opt _ _ _ _ _ L _ (h1.keep hB) (h2.keep hB)).mono ?_; rintro e w1 ⟨rfl, hb1⟩; obtain ⟨hc1, hf1⟩ := bcell hb1)
  go_ret
  exact ⟨rfl, hB.trans (hb1.mono (by simp; omega))⟩
end Go.Proofs.Ytflnbkncigifaaa
