/-
  A list of entries of the call's own, or the nil list: held against another, marked, and found again, by walks of the laws' Go text.
-/
import Derived.Test.YtkdalacclafihaaHeldE
import Derived.Test.YtkdalacclafihaaOwnO
namespace Go.Proofs.Ytkdalacclafihaa
open Go.RowKit

set_option maxHeartbeats 800000 in
theorem eqEntS_zero (a1 a2 : Option Addr) (c1 c2 : Nat) (w : World) :
    Calls Try.prog 11 #[.slice a1 0 c1, .slice a2 0 c2] w fun e w' => e = .returned (.bool true) ∧ Below w.heap.size w w' := by
  go_enter Try.func11, Try.ntmps11
  go_wp2
  go_loopw [5] (fun i wr => i = .int .i64 0 ∧ wr = w) (fun i _ => 0)
  case atStart => exact ⟨rfl, rfl⟩
  case round =>
    obtain ⟨rfl, rfl⟩ := hrel
    go_wp2
    go_ret
    exact ⟨rfl, Below.refl _ _⟩
theorem eqEntS_opt (a1 a2 : Option Addr) (len c1 c2 : Nat) (L : List EntD) (w : World) (h1 : EntsAt w a1 len c1 L) (h2 : EntsAt w a2 len c2 L) :
    Calls Try.prog 11 #[.slice a1 len c1, .slice a2 len c2] w fun e w' => e = .returned (.bool true) ∧ Below w.heap.size w w' := by
  by_cases h0 : len = 0
  · subst h0
    exact eqEntS_zero a1 a2 c1 c2 w
  · obtain ⟨b1, o1, rfl, _⟩ := h1.form (by omega)
    obtain ⟨b2, o2, rfl, _⟩ := h2.form (by omega)
    exact eqEntS_same b1 o1 b2 o2 len c1 c2 L w h1 h2
set_option maxHeartbeats 800000 in
theorem markE_nil (k : Nat) (w : World) :
    Calls Try.prog 14 #[.slice none 0 0, .int .i64 k] w fun e w' => e = .returned (.int .i64 (k : Int)) ∧ w' = w := by
  go_enter Try.func14, Try.ntmps14
  go_wp2
  go_loopw [1, 5] (fun kv i wr => kv = .int .i64 (k : Int) ∧ i = .int .i64 0 ∧ wr = w) (fun _ i _ => 0)
  case atStart => exact ⟨rfl, rfl, rfl⟩
  case round =>
    obtain ⟨rfl, rfl, rfl⟩ := hrel
    go_wp2
    go_ret
    exact ⟨rfl, rfl⟩
set_option maxHeartbeats 800000 in
theorem heldE_nil (k : Nat) (w : World) :
    Calls Try.prog 15 #[.slice none 0 0, .int .i64 k] w fun e w' => e = .returned (.int .i64 (k : Int)) ∧ w' = w := by
  go_enter Try.func15, Try.ntmps15
  go_wp2
  go_loopw [1, 5] (fun kv i wr => kv = .int .i64 (k : Int) ∧ i = .int .i64 0 ∧ wr = w) (fun _ i _ => 0)
  case atStart => exact ⟨rfl, rfl, rfl⟩
  case round =>
    obtain ⟨rfl, rfl, rfl⟩ := hrel
    go_wp2
    go_ret
    exact ⟨rfl, rfl⟩
theorem markO_any (base : Nat) (a : Option Addr) (n c : Nat) (L : List EntD) (w : World) (hO : OwnO w base a n c L) (hn : 1 + 5 * n ≤ 1000000000) :
    Calls Try.prog 14 #[.slice a n c, .int .i64 1] w fun e w' => e = .returned (.int .i64 ((1 + 5 * n : Nat) : Int)) ∧ OwnO w' base a n c (markL 1 n) ∧ w.grownBy w' (a.map Addr.block) := by
  cases a with
  | none =>
    obtain ⟨h1, h2, h3⟩ := hO.nil rfl
    subst h1 h2 h3
    refine (markE_nil 1 w).mono ?_
    rintro e w' ⟨rfl, rfl⟩
    exact ⟨rfl, OwnO.none _ _, ⟨rfl, rfl, rfl, Nat.le_refl _, fun _ _ _ => rfl⟩⟩
  | some x =>
    obtain ⟨g, rfl, h2⟩ := hO.own x rfl
    refine (markE_any base g n c 1 L w h2 (by omega) hn).mono ?_
    rintro e w' ⟨rfl, h3, h4⟩
    exact ⟨rfl, OwnO.some h3, h4⟩
theorem heldO_any (base : Nat) (a : Option Addr) (n c : Nat) (w : World) (hO : OwnO w base a n c (markL 1 n)) (hn : 1 + 5 * n ≤ 1000000000) :
    Calls Try.prog 15 #[.slice a n c, .int .i64 1] w fun e w' => e = .returned (.int .i64 ((1 + 5 * n : Nat) : Int)) ∧ Below w.heap.size w w' := by
  cases a with
  | none =>
    obtain ⟨h1, h2, h3⟩ := hO.nil rfl
    subst h1 h2
    refine (heldE_nil 1 w).mono ?_
    rintro e w' ⟨rfl, rfl⟩
    exact ⟨rfl, Below.refl _ _⟩
  | some x =>
    obtain ⟨g, rfl, h2⟩ := hO.own x rfl
    exact heldE_any g n c 1 w h2.entsAt (by omega) hn

end Go.Proofs.Ytkdalacclafihaa
