/-
  What the laws draw from a list of numbers, from a list of texts, and an account, by walks of their Go text.
-/
import Derived.Test.YtcabinakcmpkeaaDoorDraw1
import Derived.Test.YtcabinakcmpkeaaDoorBase
namespace Go.Proofs.YtcabinakcmpkeaaDoor
open Go.RowKit

set_option maxHeartbeats 400000 in
theorem num_any (Q : Int → Prop) (R P : Nat) (a : Option Addr) (len cap : Nat) (b off m c : Nat) (w : World) (h : RdAt w R a len cap P) (hP : P < 100000) (hm1 : 1 ≤ m) (hm2 : m ≤ 100) (hbR : b ≠ R) (hbw : b < w.heap.size)
    (hc : ∀ i, i < m → ∃ z : Int, w.cell? ⟨b, off + i, none⟩ = some (.int .i64 z) ∧ Q z) :
    Calls Tryd.prog 93 #[.pointer (some ⟨R, 0, none⟩), .slice (some ⟨b, off, none⟩) m c] w fun e w' => ∃ z : Int, e = .returned (.int .i64 z) ∧ Q z ∧ RdAt w' R a len cap (P + 1) ∧ w.grownBy w' (some R) := by
  have HC : Hid (∀ i, i < m → ∃ z : Int, w.cell? ⟨b, off + i, none⟩ = some (.int .i64 z) ∧ Q z) := hc
  clear hc
  go_enter Tryd.func93, Tryd.ntmps93
  go_wp2_with fail
  refine (pick_any R P a len cap _ _ h hP (by omega)).mono ?_
  rintro e w1 ⟨q, rfl, hq, hR1, hg1⟩
  obtain ⟨k, rfl⟩ := Int.eq_ofNat_of_zero_le hq.1
  have hk : k < m := by have := hq.2 (by omega); omega
  obtain ⟨z, hz, hQ⟩ := HC.out k hk
  have hz1 : w1.cell? ⟨b, off + k, none⟩ = some (.int .i64 z) := (grown_cell hg1 (x := ⟨b, off + k, none⟩) hbw hbR).trans hz
  clear hz hq
  go_wp2
  go_ret
  exact ⟨z, rfl, hQ, hR1, hg1⟩

set_option maxHeartbeats 400000 in
theorem of_any (Q : ByteArray → Prop) (R P : Nat) (a : Option Addr) (len cap : Nat) (b off m c : Nat) (w : World) (h : RdAt w R a len cap P) (hP : P < 100000) (hm1 : 1 ≤ m) (hm2 : m ≤ 100) (hbR : b ≠ R) (hbw : b < w.heap.size)
    (hc : ∀ i, i < m → ∃ z : ByteArray, w.cell? ⟨b, off + i, none⟩ = some (.string z) ∧ Q z) :
    Calls Tryd.prog 68 #[.pointer (some ⟨R, 0, none⟩), .slice (some ⟨b, off, none⟩) m c] w fun e w' => ∃ z : ByteArray, e = .returned (.string z) ∧ Q z ∧ RdAt w' R a len cap (P + 1) ∧ w.grownBy w' (some R) := by
  have HC : Hid (∀ i, i < m → ∃ z : ByteArray, w.cell? ⟨b, off + i, none⟩ = some (.string z) ∧ Q z) := hc
  clear hc
  go_enter Tryd.func68, Tryd.ntmps68
  go_wp2_with fail
  refine (pick_any R P a len cap _ _ h hP (by omega)).mono ?_
  rintro e w1 ⟨q, rfl, hq, hR1, hg1⟩
  obtain ⟨k, rfl⟩ := Int.eq_ofNat_of_zero_le hq.1
  have hk : k < m := by have := hq.2 (by omega); omega
  obtain ⟨z, hz, hQ⟩ := HC.out k hk
  have hz1 : w1.cell? ⟨b, off + k, none⟩ = some (.string z) := (grown_cell hg1 (x := ⟨b, off + k, none⟩) hbw hbR).trans hz
  clear hz hq
  go_wp2
  go_ret
  exact ⟨z, rfl, hQ, hR1, hg1⟩

/-- The cells of a list of texts that has just been written out. -/
theorem strs_new (w : World) (t : TypeId) (l : List ByteArray) (Q : ByteArray → Prop) (hQ : ∀ s ∈ l, Q s) : ∀ i, i < l.length → ∃ z : ByteArray, (w.alloc (.cells (l.map Value.string).toArray t)).cell? ⟨w.heap.size, 0 + i, none⟩ = some (.string z) ∧ Q z := by
  intro i hi
  refine ⟨l[i], ?_, hQ _ (List.getElem_mem hi)⟩
  rw [Nat.zero_add, World.cell?_alloc_new]
  simp [hi]
theorem ints_new (w : World) (t : TypeId) (l : List Int) (Q : Int → Prop) (hQ : ∀ s ∈ l, Q s) : ∀ i, i < l.length → ∃ z : Int, (w.alloc (.cells (l.map (Value.int .i64)).toArray t)).cell? ⟨w.heap.size, 0 + i, none⟩ = some (.int .i64 z) ∧ Q z := by
  intro i hi
  refine ⟨l[i], ?_, hQ _ (List.getElem_mem hi)⟩
  rw [Nat.zero_add, World.cell?_alloc_new]
  simp [hi]

/-- A text of few bytes, and not the account none. -/
def FewB (s : ByteArray) : Prop := s.size ≤ 8 ∧ ¬ s.data.toList = [110, 111, 110, 101]

theorem rd_new (w : World) (a : Option Addr) (len cap : Nat) (t : TypeId) (few : len ≤ 2000) (hb : len = 0 ∨ ∃ b off, a = some ⟨b, off, none⟩ ∧ b < w.heap.size ∧ ∀ i, i < len → ∃ z : Nat, z ≤ 255 ∧ w.cell? ⟨b, off + i, none⟩ = some (.int .u8 z)) :
    RdAt (w.alloc (.cells #[.slice a len cap, .int .i64 0] t)) w.heap.size a len cap 0 := by
  refine ⟨by simp, by simp, by simp, few, ?_⟩
  rcases hb with h0 | ⟨b, off, ha, hbw, hc⟩
  · exact Or.inl h0
  · refine Or.inr ⟨b, off, ha, by omega, by simp; omega, fun i hi => ?_⟩
    obtain ⟨z, hz, hcc⟩ := hc i hi
    exact ⟨z, hz, cell_later ((Below.refl _ _).alloc (Nat.le_refl _) _) hcc⟩

set_option maxHeartbeats 400000 in
theorem l9Open_any (a : Option Addr) (len cap : Nat) (w : World) (hl : len ≤ cap) (hcap : cap ≤ maxLen) (hb : len = 0 ∨ ∃ b off, a = some ⟨b, off, none⟩ ∧ b < w.heap.size ∧ ∀ i, i < len → ∃ z : Nat, z ≤ 255 ∧ w.cell? ⟨b, off + i, none⟩ = some (.int .u8 z)) :
    Calls Tryd.prog 65 #[.slice a len cap] w fun e w' => ∃ len', e = .returned (.pointer (some ⟨w.heap.size, 0, none⟩)) ∧ RdAt w' w.heap.size a len' cap 0 ∧ Below w.heap.size w w' ∧ w'.heap.size = w.heap.size + 1 := by
  unfold maxLen at hcap
  have HB : Hid (len = 0 ∨ ∃ b off, a = some ⟨b, off, none⟩ ∧ b < w.heap.size ∧ ∀ i, i < len → ∃ z : Nat, z ≤ 255 ∧ w.cell? ⟨b, off + i, none⟩ = some (.int .u8 z)) := hb
  clear hb
  by_cases h2 : 2000 < len
  · obtain ⟨b, off, rfl, hbw, hby⟩ : ∃ b off, a = some ⟨b, off, none⟩ ∧ b < w.heap.size ∧ ∀ i, i < len → ∃ z : Nat, z ≤ 255 ∧ w.cell? ⟨b, off + i, none⟩ = some (.int .u8 z) := by
      rcases HB.out with h0 | h0
      · omega
      · exact h0
    have HBY : Hid (∀ i, i < len → ∃ z : Nat, z ≤ 255 ∧ w.cell? ⟨b, off + i, none⟩ = some (.int .u8 z)) := hby
    clear hby
    have hcI : (2000 : Int) ≤ (cap : Int) := by omega
    go_enter Tryd.func65, Tryd.ntmps65
    go_wp2
    go_ret
    exact ⟨2000, rfl, rd_new w _ 2000 cap _ (by omega) (Or.inr ⟨b, off, rfl, hbw, fun i hi => HBY.out i (by omega)⟩), (Below.refl _ _).alloc (Nat.le_refl _) _, by simp⟩
  · go_enter Tryd.func65, Tryd.ntmps65
    go_wp2
    go_ret
    exact ⟨len, rfl, rd_new w _ len cap _ (by omega) HB.out, (Below.refl _ _).alloc (Nat.le_refl _) _, by simp⟩

end Go.Proofs.YtcabinakcmpkeaaDoor
