/-
  The reader from which the laws draw: what it picks, by a walk of its Go text.
-/
import Derived.Test.YtcabinakcmpkeaaDoorDraw0
namespace Go.Proofs.YtcabinakcmpkeaaDoor
open Go.RowKit

set_option maxHeartbeats 2000000 in
theorem pick_any (R P : Nat) (a : Option Addr) (len cap : Nat) (n : Int) (w : World) (h : RdAt w R a len cap P) (hP : P < 100000) (hn : n ≤ 1000000) :
    Calls Tryd.prog 67 #[.pointer (some ⟨R, 0, none⟩), .int .i64 n] w fun e w' => ∃ q : Int, e = .returned (.int .i64 q) ∧ PickR n q ∧ RdAt w' R a len cap (P + 1) ∧ w.grownBy w' (some R) := by
  have c0 := h.c0
  have c1 := h.c1
  have f1 := h.f1
  have few := h.few
  have H : Hid (RdAt w R a len cap P) := h
  clear h
  by_cases h1 : n < 1
  · go_enter Tryd.func67, Tryd.ntmps67
    go_wp2
    go_ret
    exact ⟨0, rfl, ⟨by omega, fun h => by omega⟩, H.out.next, grown_next w R _⟩
  by_cases h2 : len = 0
  · subst h2
    go_enter Tryd.func67, Tryd.ntmps67
    go_wp2
    go_ret
    exact ⟨0, rfl, ⟨by omega, fun h => by omega⟩, H.out.next, grown_next w R _⟩
  obtain ⟨b, off, rfl, hbR, hbw, hbytes⟩ : ∃ b off, a = some ⟨b, off, none⟩ ∧ b ≠ R ∧ b < w.heap.size ∧ ∀ i, i < len → ∃ z : Nat, z ≤ 255 ∧ w.cell? ⟨b, off + i, none⟩ = some (.int .u8 z) := by
    rcases H.out.bytes with h0 | h0
    · exact absurd h0 h2
    · exact h0
  have HB : Hid (∀ i, i < len → ∃ z : Nat, z ≤ 255 ∧ w.cell? ⟨b, off + i, none⟩ = some (.int .u8 z)) := hbytes
  clear hbytes
  have hl0 : ((len : Int) == 0) = false := by simpa using h2
  by_cases h3 : P < len
  · obtain ⟨z, hz, hcz⟩ := HB.out P h3
    have hcz' : (w.setCell ⟨R, 1, none⟩ (.int .i64 ((P : Int) + 1))).cell? ⟨b, off + P, none⟩ = some (.int .u8 z) := by rw [World.cell?_setCell_other _ _ _ _ (fun e => hbR (congrArg Addr.block e).symm)]; exact hcz
    go_enter Tryd.func67, Tryd.ntmps67
    go_wp2
    go_ret
    exact ⟨_, rfl, ⟨Int.emod_nonneg _ (by omega), fun _ => Int.emod_lt_of_pos _ (by omega)⟩, H.out.next, grown_next w R _⟩
  · have hm1 : P % len < len := Nat.mod_lt _ (by omega)
    have hm2 : (P * 7 + 3) % len < len := Nat.mod_lt _ (by omega)
    obtain ⟨z, hz, hcz⟩ := HB.out (P % len) hm1
    obtain ⟨y, hy, hcy⟩ := HB.out ((P * 7 + 3) % len) hm2
    have hcz' : (w.setCell ⟨R, 1, none⟩ (.int .i64 ((P : Int) + 1))).cell? ⟨b, off + P % len, none⟩ = some (.int .u8 z) := by rw [World.cell?_setCell_other _ _ _ _ (fun e => hbR (congrArg Addr.block e).symm)]; exact hcz
    have hcy' : (w.setCell ⟨R, 1, none⟩ (.int .i64 ((P : Int) + 1))).cell? ⟨b, off + (P * 7 + 3) % len, none⟩ = some (.int .u8 y) := by rw [World.cell?_setCell_other _ _ _ _ (fun e => hbR (congrArg Addr.block e).symm)]; exact hcy
    have hlp : (0 : Int) < (len : Int) := by omega
    have hi0 : (0 : Int) ≤ (P : Int) % (len : Int) := Int.emod_nonneg _ (by omega)
    have hi1 : (P : Int) % (len : Int) < (len : Int) := Int.emod_lt_of_pos _ hlp
    have hj0 : (0 : Int) ≤ ((P : Int) * 7 + 3) % (len : Int) := Int.emod_nonneg _ (by omega)
    have hj1 : ((P : Int) * 7 + 3) % (len : Int) < (len : Int) := Int.emod_lt_of_pos _ hlp
    go_enter Tryd.func67, Tryd.ntmps67
    go_wp2_with fail
    go_quiet (fail)
    go_wp2
    go_ret
    exact ⟨_, rfl, pick_far z y P len n hz hy hP (by omega), RdAt.below H.out.next (below_drewN (Below.refl _ _) _), grown_trans (grown_next w R _) (grown_below (below_drewN (Below.refl _ _) _))⟩

end Go.Proofs.YtcabinakcmpkeaaDoor
