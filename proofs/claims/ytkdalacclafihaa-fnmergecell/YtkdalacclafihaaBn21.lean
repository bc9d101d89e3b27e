/-
  What the laws draw from a list of numbers, from a list of texts, and an account, by walks of their Go text.
  A box of five cells, and what it keeps; no statement of the program stands here.
  A box of three cells, and what it keeps; no statement of the program stands here.
-/
import Derived.Test.YtkdalacclafihaaBn07
import Derived.Test.YtkdalacclafihaaBn02
namespace Go.Proofs.Ytkdalacclafihaa
open Go.RowKit

set_option maxHeartbeats 400000 in
theorem num_any (Q : Int → Prop) (R P : Nat) (a : Option Addr) (len cap : Nat) (b off m c : Nat) (w : World) (h : RdAt w R a len cap P) (hP : P < 100000) (hm1 : 1 ≤ m) (hm2 : m ≤ 100) (hbR : b ≠ R) (hbw : b < w.heap.size)
    (hc : ∀ i, i < m → ∃ z : Int, w.cell? ⟨b, off + i, none⟩ = some (.int .i64 z) ∧ Q z) :
    Calls Try.prog 75 #[.pointer (some ⟨R, 0, none⟩), .slice (some ⟨b, off, none⟩) m c] w fun e w' => ∃ z : Int, e = .returned (.int .i64 z) ∧ Q z ∧ RdAt w' R a len cap (P + 1) ∧ w.grownBy w' (some R) := by
  have HC : Hid (∀ i, i < m → ∃ z : Int, w.cell? ⟨b, off + i, none⟩ = some (.int .i64 z) ∧ Q z) := hc
  clear hc
  go_enter Try.func75, Try.ntmps75
  go_wp2_with fail
  refine (pick_any R P a len cap _ _ h hP (by omega)).mono ?_
  rintro e w1 ⟨q, rfl, hq, hR1, hg1⟩
  obtain ⟨k, rfl⟩ := Int.eq_ofNat_of_zero_le hq.1
  have hk : k < m := by have := hq.2 (by omega); omega
  obtain ⟨z, hz, hQ⟩ := HC.out k hk
  have hz1 : w1.cell? ⟨b, off + k, none⟩ = some (.int .i64 z) := (grown_cell hg1 (x := ⟨b, off + k, none⟩) hbw hbR).trans hz
  clear hz hq
  go_wp2
  go_ret
  exact ⟨z, rfl, hQ, hR1, hg1⟩

set_option maxHeartbeats 400000 in
theorem of_any (Q : ByteArray → Prop) (R P : Nat) (a : Option Addr) (len cap : Nat) (b off m c : Nat) (w : World) (h : RdAt w R a len cap P) (hP : P < 100000) (hm1 : 1 ≤ m) (hm2 : m ≤ 100) (hbR : b ≠ R) (hbw : b < w.heap.size)
    (hc : ∀ i, i < m → ∃ z : ByteArray, w.cell? ⟨b, off + i, none⟩ = some (.string z) ∧ Q z) :
    Calls Try.prog 65 #[.pointer (some ⟨R, 0, none⟩), .slice (some ⟨b, off, none⟩) m c] w fun e w' => ∃ z : ByteArray, e = .returned (.string z) ∧ Q z ∧ RdAt w' R a len cap (P + 1) ∧ w.grownBy w' (some R) := by
  have HC : Hid (∀ i, i < m → ∃ z : ByteArray, w.cell? ⟨b, off + i, none⟩ = some (.string z) ∧ Q z) := hc
  clear hc
  go_enter Try.func65, Try.ntmps65
  go_wp2_with fail
  refine (pick_any R P a len cap _ _ h hP (by omega)).mono ?_
  rintro e w1 ⟨q, rfl, hq, hR1, hg1⟩
  obtain ⟨k, rfl⟩ := Int.eq_ofNat_of_zero_le hq.1
  have hk : k < m := by have := hq.2 (by omega); omega
  obtain ⟨z, hz, hQ⟩ := HC.out k hk
  have hz1 : w1.cell? ⟨b, off + k, none⟩ = some (.string z) := (grown_cell hg1 (x := ⟨b, off + k, none⟩) hbw hbR).trans hz
  clear hz hq
  go_wp2
  go_ret
  exact ⟨z, rfl, hQ, hR1, hg1⟩

/-- The cells of a list of texts that has just been written out. -/
theorem strs_new (w : World) (t : TypeId) (l : List ByteArray) (Q : ByteArray → Prop) (hQ : ∀ s ∈ l, Q s) : ∀ i, i < l.length → ∃ z : ByteArray, (w.alloc (.cells (l.map Value.string).toArray t)).cell? ⟨w.heap.size, 0 + i, none⟩ = some (.string z) ∧ Q z := by
  intro i hi
  refine ⟨l[i], ?_, hQ _ (List.getElem_mem hi)⟩
  rw [Nat.zero_add, World.cell?_alloc_new]
  simp [hi]
theorem ints_new (w : World) (t : TypeId) (l : List Int) (Q : Int → Prop) (hQ : ∀ s ∈ l, Q s) : ∀ i, i < l.length → ∃ z : Int, (w.alloc (.cells (l.map (Value.int .i64)).toArray t)).cell? ⟨w.heap.size, 0 + i, none⟩ = some (.int .i64 z) ∧ Q z := by
  intro i hi
  refine ⟨l[i], ?_, hQ _ (List.getElem_mem hi)⟩
  rw [Nat.zero_add, World.cell?_alloc_new]
  simp [hi]

/-- A text of few bytes, and not the account none. -/
def FewB (s : ByteArray) : Prop := s.size ≤ 8 ∧ ¬ s.data.toList = [110, 111, 110, 101]

theorem rd_new (w : World) (a : Option Addr) (len cap : Nat) (t : TypeId) (few : len ≤ 2000) (hb : len = 0 ∨ ∃ b off, a = some ⟨b, off, none⟩ ∧ b < w.heap.size ∧ ∀ i, i < len → ∃ z : Nat, z ≤ 255 ∧ w.cell? ⟨b, off + i, none⟩ = some (.int .u8 z)) :
    RdAt (w.alloc (.cells #[.slice a len cap, .int .i64 0] t)) w.heap.size a len cap 0 := by
  refine ⟨by simp, by simp, by simp, few, ?_⟩
  rcases hb with h0 | ⟨b, off, ha, hbw, hc⟩
  · exact Or.inl h0
  · refine Or.inr ⟨b, off, ha, by omega, by simp; omega, fun i hi => ?_⟩
    obtain ⟨z, hz, hcc⟩ := hc i hi
    exact ⟨z, hz, cell_later ((Below.refl _ _).alloc (Nat.le_refl _) _) hcc⟩

set_option maxHeartbeats 400000 in
theorem l9Open_any (a : Option Addr) (len cap : Nat) (w : World) (hl : len ≤ cap) (hcap : cap ≤ maxLen) (hb : len = 0 ∨ ∃ b off, a = some ⟨b, off, none⟩ ∧ b < w.heap.size ∧ ∀ i, i < len → ∃ z : Nat, z ≤ 255 ∧ w.cell? ⟨b, off + i, none⟩ = some (.int .u8 z)) :
    Calls Try.prog 38 #[.slice a len cap] w fun e w' => ∃ len', e = .returned (.pointer (some ⟨w.heap.size, 0, none⟩)) ∧ RdAt w' w.heap.size a len' cap 0 ∧ Below w.heap.size w w' ∧ w'.heap.size = w.heap.size + 1 := by
  unfold maxLen at hcap
  have HB : Hid (len = 0 ∨ ∃ b off, a = some ⟨b, off, none⟩ ∧ b < w.heap.size ∧ ∀ i, i < len → ∃ z : Nat, z ≤ 255 ∧ w.cell? ⟨b, off + i, none⟩ = some (.int .u8 z)) := hb
  clear hb
  by_cases h2 : 2000 < len
  · obtain ⟨b, off, rfl, hbw, hby⟩ : ∃ b off, a = some ⟨b, off, none⟩ ∧ b < w.heap.size ∧ ∀ i, i < len → ∃ z : Nat, z ≤ 255 ∧ w.cell? ⟨b, off + i, none⟩ = some (.int .u8 z) := by
      rcases HB.out with h0 | h0
      · omega
      · exact h0
    have HBY : Hid (∀ i, i < len → ∃ z : Nat, z ≤ 255 ∧ w.cell? ⟨b, off + i, none⟩ = some (.int .u8 z)) := hby
    clear hby
    have hcI : (2000 : Int) ≤ (cap : Int) := by omega
    go_enter Try.func38, Try.ntmps38
    go_wp2
    go_ret
    exact ⟨2000, rfl, rd_new w _ 2000 cap _ (by omega) (Or.inr ⟨b, off, rfl, hbw, fun i hi => HBY.out i (by omega)⟩), (Below.refl _ _).alloc (Nat.le_refl _) _, by simp⟩
  · go_enter Try.func38, Try.ntmps38
    go_wp2
    go_ret
    exact ⟨len, rfl, rd_new w _ len cap _ (by omega) HB.out, (Below.refl _ _).alloc (Nat.le_refl _) _, by simp⟩

end Go.Proofs.Ytkdalacclafihaa

namespace Go.Proofs.Ytkdalacclafihaa
open Go.RowKit

/-- Five cells in block X. -/
structure Box5 (w : World) (X : Nat) (v0 v1 v2 v3 v4 : Value) : Prop where
  c0 : w.cell? ⟨X, 0, none⟩ = some v0
  c1 : w.cell? ⟨X, 1, none⟩ = some v1
  c2 : w.cell? ⟨X, 2, none⟩ = some v2
  c3 : w.cell? ⟨X, 3, none⟩ = some v3
  c4 : w.cell? ⟨X, 4, none⟩ = some v4
  fr : ∀ o, w.frozen? ⟨X, o, none⟩ = false
theorem Box5.lt {w : World} {X : Nat} {v0 v1 v2 v3 v4 : Value} (h : Box5 w X v0 v1 v2 v3 v4) : X < w.heap.size := World.block_lt_of_cell? _ _ h.c0
theorem Box5.new (w : World) (T : TypeId) (v0 v1 v2 v3 v4 : Value) : Box5 (w.alloc (.cells #[v0, v1, v2, v3, v4] T)) w.heap.size v0 v1 v2 v3 v4 :=
  ⟨by simp, by simp, by simp, by simp, by simp, fun o => World.frozen?_alloc_new w _ _ o⟩
theorem Box5.newD (w : World) (T : TypeId) (v0 v1 v2 v3 v4 : Value) : Box5 (w.alloc (.cells #[v0, v1, v2, v3, v4] T)).drew w.heap.size v0 v1 v2 v3 v4 :=
  let h := Box5.new w T v0 v1 v2 v3 v4
  ⟨h.c0, h.c1, h.c2, h.c3, h.c4, h.fr⟩
theorem Box5.below {w w' : World} {X : Nat} {v0 v1 v2 v3 v4 : Value} (h : Box5 w X v0 v1 v2 v3 v4) (hb : Below w.heap.size w w') : Box5 w' X v0 v1 v2 v3 v4 :=
  ⟨cell_later hb h.c0, cell_later hb h.c1, cell_later hb h.c2, cell_later hb h.c3, cell_later hb h.c4, fun o => (hb.frozen (p := ⟨X, o, none⟩) h.lt).trans (h.fr o)⟩
theorem Box5.alloc {w : World} {X : Nat} {v0 v1 v2 v3 v4 : Value} (h : Box5 w X v0 v1 v2 v3 v4) (o : Obj) : Box5 (w.alloc o) X v0 v1 v2 v3 v4 := h.below ((Below.refl _ _).alloc (Nat.le_refl _) _)
theorem Box5.grown {w w' : World} {X R : Nat} {v0 v1 v2 v3 v4 : Value} (h : Box5 w X v0 v1 v2 v3 v4) (hg : w.grownBy w' (some R)) (hn : X ≠ R) : Box5 w' X v0 v1 v2 v3 v4 :=
  ⟨(grown_cell hg (x := ⟨X, 0, none⟩) h.lt hn).trans h.c0, (grown_cell hg (x := ⟨X, 1, none⟩) h.lt hn).trans h.c1, (grown_cell hg (x := ⟨X, 2, none⟩) h.lt hn).trans h.c2, (grown_cell hg (x := ⟨X, 3, none⟩) h.lt hn).trans h.c3, (grown_cell hg (x := ⟨X, 4, none⟩) h.lt hn).trans h.c4, fun o => (World.frozen?_of_block (hg.block X h.lt (fun e => hn (by cases e; rfl)))).trans (h.fr o)⟩
theorem Box5.other {w : World} {X Y : Nat} {v0 v1 v2 v3 v4 : Value} (h : Box5 w X v0 v1 v2 v3 v4) (hn : X ≠ Y) (o : Nat) (v : Value) : Box5 (w.setCell ⟨Y, o, none⟩ v) X v0 v1 v2 v3 v4 := by
  have ne : ∀ i, (⟨Y, o, none⟩ : Addr) ≠ ⟨X, i, none⟩ := fun i e => hn (congrArg Addr.block e).symm
  exact ⟨by rw [World.cell?_setCell_other _ _ _ _ (ne 0)]; exact h.c0, by rw [World.cell?_setCell_other _ _ _ _ (ne 1)]; exact h.c1, by rw [World.cell?_setCell_other _ _ _ _ (ne 2)]; exact h.c2, by rw [World.cell?_setCell_other _ _ _ _ (ne 3)]; exact h.c3, by rw [World.cell?_setCell_other _ _ _ _ (ne 4)]; exact h.c4, fun o' => by rw [World.frozen?_setCell]; exact h.fr o'⟩
theorem Box5.set0 {w : World} {X : Nat} {v0 v1 v2 v3 v4 : Value} (h : Box5 w X v0 v1 v2 v3 v4) (v : Value) : Box5 (w.setCell ⟨X, 0, none⟩ v) X v v1 v2 v3 v4 := by
  refine ⟨World.cell?_setCell_same' _ _ _ (by rw [h.c0]; rfl), ?_, ?_, ?_, ?_, fun o' => by rw [World.frozen?_setCell]; exact h.fr o'⟩
  · rw [World.cell?_setCell_other _ _ _ _ (by simp)]; exact h.c1
  · rw [World.cell?_setCell_other _ _ _ _ (by simp)]; exact h.c2
  · rw [World.cell?_setCell_other _ _ _ _ (by simp)]; exact h.c3
  · rw [World.cell?_setCell_other _ _ _ _ (by simp)]; exact h.c4
theorem Box5.set1 {w : World} {X : Nat} {v0 v1 v2 v3 v4 : Value} (h : Box5 w X v0 v1 v2 v3 v4) (v : Value) : Box5 (w.setCell ⟨X, 1, none⟩ v) X v0 v v2 v3 v4 := by
  refine ⟨?_, World.cell?_setCell_same' _ _ _ (by rw [h.c1]; rfl), ?_, ?_, ?_, fun o' => by rw [World.frozen?_setCell]; exact h.fr o'⟩
  · rw [World.cell?_setCell_other _ _ _ _ (by simp)]; exact h.c0
  · rw [World.cell?_setCell_other _ _ _ _ (by simp)]; exact h.c2
  · rw [World.cell?_setCell_other _ _ _ _ (by simp)]; exact h.c3
  · rw [World.cell?_setCell_other _ _ _ _ (by simp)]; exact h.c4
theorem Box5.set2 {w : World} {X : Nat} {v0 v1 v2 v3 v4 : Value} (h : Box5 w X v0 v1 v2 v3 v4) (v : Value) : Box5 (w.setCell ⟨X, 2, none⟩ v) X v0 v1 v v3 v4 := by
  refine ⟨?_, ?_, World.cell?_setCell_same' _ _ _ (by rw [h.c2]; rfl), ?_, ?_, fun o' => by rw [World.frozen?_setCell]; exact h.fr o'⟩
  · rw [World.cell?_setCell_other _ _ _ _ (by simp)]; exact h.c0
  · rw [World.cell?_setCell_other _ _ _ _ (by simp)]; exact h.c1
  · rw [World.cell?_setCell_other _ _ _ _ (by simp)]; exact h.c3
  · rw [World.cell?_setCell_other _ _ _ _ (by simp)]; exact h.c4
theorem Box5.set3 {w : World} {X : Nat} {v0 v1 v2 v3 v4 : Value} (h : Box5 w X v0 v1 v2 v3 v4) (v : Value) : Box5 (w.setCell ⟨X, 3, none⟩ v) X v0 v1 v2 v v4 := by
  refine ⟨?_, ?_, ?_, World.cell?_setCell_same' _ _ _ (by rw [h.c3]; rfl), ?_, fun o' => by rw [World.frozen?_setCell]; exact h.fr o'⟩
  · rw [World.cell?_setCell_other _ _ _ _ (by simp)]; exact h.c0
  · rw [World.cell?_setCell_other _ _ _ _ (by simp)]; exact h.c1
  · rw [World.cell?_setCell_other _ _ _ _ (by simp)]; exact h.c2
  · rw [World.cell?_setCell_other _ _ _ _ (by simp)]; exact h.c4
theorem Box5.set4 {w : World} {X : Nat} {v0 v1 v2 v3 v4 : Value} (h : Box5 w X v0 v1 v2 v3 v4) (v : Value) : Box5 (w.setCell ⟨X, 4, none⟩ v) X v0 v1 v2 v3 v := by
  refine ⟨?_, ?_, ?_, ?_, World.cell?_setCell_same' _ _ _ (by rw [h.c4]; rfl), fun o' => by rw [World.frozen?_setCell]; exact h.fr o'⟩
  · rw [World.cell?_setCell_other _ _ _ _ (by simp)]; exact h.c0
  · rw [World.cell?_setCell_other _ _ _ _ (by simp)]; exact h.c1
  · rw [World.cell?_setCell_other _ _ _ _ (by simp)]; exact h.c2
  · rw [World.cell?_setCell_other _ _ _ _ (by simp)]; exact h.c3
/-- All five. -/
theorem Box5.setAll {w : World} {X : Nat} {v0 v1 v2 v3 v4 : Value} (h : Box5 w X v0 v1 v2 v3 v4) (u0 u1 u2 u3 u4 : Value) : Box5 (((((w.setCell ⟨X, 0, none⟩ u0).setCell ⟨X, 1, none⟩ u1).setCell ⟨X, 2, none⟩ u2).setCell ⟨X, 3, none⟩ u3).setCell ⟨X, 4, none⟩ u4) X u0 u1 u2 u3 u4 :=
  ((((h.set0 u0).set1 u1).set2 u2).set3 u3).set4 u4

/-- The reader is kept where another block is written. -/
theorem RdAt.other {w : World} {R : Nat} {a : Option Addr} {len cap P : Nat} (h : RdAt w R a len cap P) {X : Nat} (hX : X ≠ R) (hB : ∀ b off, a = some ⟨b, off, none⟩ → 0 < len → b ≠ X) (o : Nat) (v : Value) : RdAt (w.setCell ⟨X, o, none⟩ v) R a len cap P := by
  have ne : ∀ i, (⟨X, o, none⟩ : Addr) ≠ ⟨R, i, none⟩ := fun i e => hX (congrArg Addr.block e)
  refine ⟨by rw [World.cell?_setCell_other _ _ _ _ (ne 0)]; exact h.c0, by rw [World.cell?_setCell_other _ _ _ _ (ne 1)]; exact h.c1, by rw [World.frozen?_setCell]; exact h.f1, h.few, ?_⟩
  rcases h.bytes with h0 | ⟨b, off, ha, hb1, hb2, hc⟩
  · exact Or.inl h0
  · by_cases h0 : len = 0
    · exact Or.inl h0
    · refine Or.inr ⟨b, off, ha, hb1, by simpa [World.setCell] using hb2, fun i hi => ?_⟩
      obtain ⟨z, hz, hcc⟩ := hc i hi
      exact ⟨z, hz, by rw [World.cell?_setCell_other _ _ _ _ (fun e => hB b off ha (by omega) (congrArg Addr.block e).symm)]; exact hcc⟩

end Go.Proofs.Ytkdalacclafihaa

namespace Go.Proofs.Ytkdalacclafihaa
open Go.RowKit

/-- Three cells in block X. -/
structure Box3 (w : World) (X : Nat) (v0 v1 v2 : Value) : Prop where
  c0 : w.cell? ⟨X, 0, none⟩ = some v0
  c1 : w.cell? ⟨X, 1, none⟩ = some v1
  c2 : w.cell? ⟨X, 2, none⟩ = some v2
  fr : ∀ o, w.frozen? ⟨X, o, none⟩ = false
theorem Box3.lt {w : World} {X : Nat} {v0 v1 v2 : Value} (h : Box3 w X v0 v1 v2) : X < w.heap.size := World.block_lt_of_cell? _ _ h.c0
theorem Box3.new (w : World) (T : TypeId) (v0 v1 v2 : Value) : Box3 (w.alloc (.cells #[v0, v1, v2] T)) w.heap.size v0 v1 v2 :=
  ⟨by simp, by simp, by simp, fun o => World.frozen?_alloc_new w _ _ o⟩
theorem Box3.below {w w' : World} {X : Nat} {v0 v1 v2 : Value} (h : Box3 w X v0 v1 v2) (hb : Below w.heap.size w w') : Box3 w' X v0 v1 v2 :=
  ⟨cell_later hb h.c0, cell_later hb h.c1, cell_later hb h.c2, fun o => (hb.frozen (p := ⟨X, o, none⟩) h.lt).trans (h.fr o)⟩
theorem Box3.alloc {w : World} {X : Nat} {v0 v1 v2 : Value} (h : Box3 w X v0 v1 v2) (o : Obj) : Box3 (w.alloc o) X v0 v1 v2 := h.below ((Below.refl _ _).alloc (Nat.le_refl _) _)
theorem Box3.grown {w w' : World} {X R : Nat} {v0 v1 v2 : Value} (h : Box3 w X v0 v1 v2) (hg : w.grownBy w' (some R)) (hn : X ≠ R) : Box3 w' X v0 v1 v2 :=
  ⟨(grown_cell hg (x := ⟨X, 0, none⟩) h.lt hn).trans h.c0, (grown_cell hg (x := ⟨X, 1, none⟩) h.lt hn).trans h.c1, (grown_cell hg (x := ⟨X, 2, none⟩) h.lt hn).trans h.c2, fun o => (World.frozen?_of_block (hg.block X h.lt (fun e => hn (by cases e; rfl)))).trans (h.fr o)⟩
theorem Box3.other {w : World} {X Y : Nat} {v0 v1 v2 : Value} (h : Box3 w X v0 v1 v2) (hn : X ≠ Y) (o : Nat) (v : Value) : Box3 (w.setCell ⟨Y, o, none⟩ v) X v0 v1 v2 := by
  have ne : ∀ i, (⟨Y, o, none⟩ : Addr) ≠ ⟨X, i, none⟩ := fun i e => hn (congrArg Addr.block e).symm
  exact ⟨by rw [World.cell?_setCell_other _ _ _ _ (ne 0)]; exact h.c0, by rw [World.cell?_setCell_other _ _ _ _ (ne 1)]; exact h.c1, by rw [World.cell?_setCell_other _ _ _ _ (ne 2)]; exact h.c2, fun o' => by rw [World.frozen?_setCell]; exact h.fr o'⟩
theorem Box3.setAll {w : World} {X : Nat} {v0 v1 v2 : Value} (h : Box3 w X v0 v1 v2) (u0 u1 u2 : Value) : Box3 (((w.setCell ⟨X, 0, none⟩ u0).setCell ⟨X, 1, none⟩ u1).setCell ⟨X, 2, none⟩ u2) X u0 u1 u2 := by
  refine ⟨?_, ?_, ?_, fun o' => by rw [World.frozen?_setCell, World.frozen?_setCell, World.frozen?_setCell]; exact h.fr o'⟩
  · rw [World.cell?_setCell_other _ _ _ _ (by simp), World.cell?_setCell_other _ _ _ _ (by simp)]
    exact World.cell?_setCell_same' _ _ _ (by rw [h.c0]; rfl)
  · rw [World.cell?_setCell_other _ _ _ _ (by simp)]
    exact World.cell?_setCell_same' _ _ _ (by rw [World.cell?_setCell_other _ _ _ _ (by simp), h.c1]; rfl)
  · exact World.cell?_setCell_same' _ _ _ (by rw [World.cell?_setCell_other _ _ _ _ (by simp), World.cell?_setCell_other _ _ _ _ (by simp), h.c2]; rfl)

end Go.Proofs.Ytkdalacclafihaa
