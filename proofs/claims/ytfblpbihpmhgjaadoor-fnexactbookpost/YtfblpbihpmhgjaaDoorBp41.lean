/-
  A box of five cells, and what it keeps; no statement of the program stands here.
  A box of three cells, and what it keeps; no statement of the program stands here.
-/
import Derived.Test.YtfblpbihpmhgjaaDoorBp05
namespace Go.Proofs.YtfblpbihpmhgjaaDoor
open Go.RowKit

/-- Five cells in block X. -/
structure Box5 (w : World) (X : Nat) (v0 v1 v2 v3 v4 : Value) : Prop where
  c0 : w.cell? ⟨X, 0, none⟩ = some v0
  c1 : w.cell? ⟨X, 1, none⟩ = some v1
  c2 : w.cell? ⟨X, 2, none⟩ = some v2
  c3 : w.cell? ⟨X, 3, none⟩ = some v3
  c4 : w.cell? ⟨X, 4, none⟩ = some v4
  fr : ∀ o, w.frozen? ⟨X, o, none⟩ = false
theorem Box5.lt {w : World} {X : Nat} {v0 v1 v2 v3 v4 : Value} (h : Box5 w X v0 v1 v2 v3 v4) : X < w.heap.size := World.block_lt_of_cell? _ _ h.c0
theorem Box5.new (w : World) (T : TypeId) (v0 v1 v2 v3 v4 : Value) : Box5 (w.alloc (.cells #[v0, v1, v2, v3, v4] T)) w.heap.size v0 v1 v2 v3 v4 :=
  ⟨by simp, by simp, by simp, by simp, by simp, fun o => World.frozen?_alloc_new w _ _ o⟩
theorem Box5.newD (w : World) (T : TypeId) (v0 v1 v2 v3 v4 : Value) : Box5 (w.alloc (.cells #[v0, v1, v2, v3, v4] T)).drew w.heap.size v0 v1 v2 v3 v4 :=
  let h := Box5.new w T v0 v1 v2 v3 v4
  ⟨h.c0, h.c1, h.c2, h.c3, h.c4, h.fr⟩
theorem Box5.below {w w' : World} {X : Nat} {v0 v1 v2 v3 v4 : Value} (h : Box5 w X v0 v1 v2 v3 v4) (hb : Below w.heap.size w w') : Box5 w' X v0 v1 v2 v3 v4 :=
  ⟨cell_later hb h.c0, cell_later hb h.c1, cell_later hb h.c2, cell_later hb h.c3, cell_later hb h.c4, fun o => (hb.frozen (p := ⟨X, o, none⟩) h.lt).trans (h.fr o)⟩
theorem Box5.alloc {w : World} {X : Nat} {v0 v1 v2 v3 v4 : Value} (h : Box5 w X v0 v1 v2 v3 v4) (o : Obj) : Box5 (w.alloc o) X v0 v1 v2 v3 v4 := h.below ((Below.refl _ _).alloc (Nat.le_refl _) _)
theorem Box5.grown {w w' : World} {X R : Nat} {v0 v1 v2 v3 v4 : Value} (h : Box5 w X v0 v1 v2 v3 v4) (hg : w.grownBy w' (some R)) (hn : X ≠ R) : Box5 w' X v0 v1 v2 v3 v4 :=
  ⟨(grown_cell hg (x := ⟨X, 0, none⟩) h.lt hn).trans h.c0, (grown_cell hg (x := ⟨X, 1, none⟩) h.lt hn).trans h.c1, (grown_cell hg (x := ⟨X, 2, none⟩) h.lt hn).trans h.c2, (grown_cell hg (x := ⟨X, 3, none⟩) h.lt hn).trans h.c3, (grown_cell hg (x := ⟨X, 4, none⟩) h.lt hn).trans h.c4, fun o => (World.frozen?_of_block (hg.block X h.lt (fun e => hn (by cases e; rfl)))).trans (h.fr o)⟩
theorem Box5.other {w : World} {X Y : Nat} {v0 v1 v2 v3 v4 : Value} (h : Box5 w X v0 v1 v2 v3 v4) (hn : X ≠ Y) (o : Nat) (v : Value) : Box5 (w.setCell ⟨Y, o, none⟩ v) X v0 v1 v2 v3 v4 := by
  have ne : ∀ i, (⟨Y, o, none⟩ : Addr) ≠ ⟨X, i, none⟩ := fun i e => hn (congrArg Addr.block e).symm
  exact ⟨by rw [World.cell?_setCell_other _ _ _ _ (ne 0)]; exact h.c0, by rw [World.cell?_setCell_other _ _ _ _ (ne 1)]; exact h.c1, by rw [World.cell?_setCell_other _ _ _ _ (ne 2)]; exact h.c2, by rw [World.cell?_setCell_other _ _ _ _ (ne 3)]; exact h.c3, by rw [World.cell?_setCell_other _ _ _ _ (ne 4)]; exact h.c4, fun o' => by rw [World.frozen?_setCell]; exact h.fr o'⟩
theorem Box5.set0 {w : World} {X : Nat} {v0 v1 v2 v3 v4 : Value} (h : Box5 w X v0 v1 v2 v3 v4) (v : Value) : Box5 (w.setCell ⟨X, 0, none⟩ v) X v v1 v2 v3 v4 := by
  refine ⟨World.cell?_setCell_same' _ _ _ (by rw [h.c0]; rfl), ?_, ?_, ?_, ?_, fun o' => by rw [World.frozen?_setCell]; exact h.fr o'⟩
  · rw [World.cell?_setCell_other _ _ _ _ (by simp)]; exact h.c1
  · rw [World.cell?_setCell_other _ _ _ _ (by simp)]; exact h.c2
  · rw [World.cell?_setCell_other _ _ _ _ (by simp)]; exact h.c3
  · rw [World.cell?_setCell_other _ _ _ _ (by simp)]; exact h.c4
theorem Box5.set1 {w : World} {X : Nat} {v0 v1 v2 v3 v4 : Value} (h : Box5 w X v0 v1 v2 v3 v4) (v : Value) : Box5 (w.setCell ⟨X, 1, none⟩ v) X v0 v v2 v3 v4 := by
  refine ⟨?_, World.cell?_setCell_same' _ _ _ (by rw [h.c1]; rfl), ?_, ?_, ?_, fun o' => by rw [World.frozen?_setCell]; exact h.fr o'⟩
  · rw [World.cell?_setCell_other _ _ _ _ (by simp)]; exact h.c0
  · rw [World.cell?_setCell_other _ _ _ _ (by simp)]; exact h.c2
  · rw [World.cell?_setCell_other _ _ _ _ (by simp)]; exact h.c3
  · rw [World.cell?_setCell_other _ _ _ _ (by simp)]; exact h.c4
theorem Box5.set2 {w : World} {X : Nat} {v0 v1 v2 v3 v4 : Value} (h : Box5 w X v0 v1 v2 v3 v4) (v : Value) : Box5 (w.setCell ⟨X, 2, none⟩ v) X v0 v1 v v3 v4 := by
  refine ⟨?_, ?_, World.cell?_setCell_same' _ _ _ (by rw [h.c2]; rfl), ?_, ?_, fun o' => by rw [World.frozen?_setCell]; exact h.fr o'⟩
  · rw [World.cell?_setCell_other _ _ _ _ (by simp)]; exact h.c0
  · rw [World.cell?_setCell_other _ _ _ _ (by simp)]; exact h.c1
  · rw [World.cell?_setCell_other _ _ _ _ (by simp)]; exact h.c3
  · rw [World.cell?_setCell_other _ _ _ _ (by simp)]; exact h.c4
theorem Box5.set3 {w : World} {X : Nat} {v0 v1 v2 v3 v4 : Value} (h : Box5 w X v0 v1 v2 v3 v4) (v : Value) : Box5 (w.setCell ⟨X, 3, none⟩ v) X v0 v1 v2 v v4 := by
  refine ⟨?_, ?_, ?_, World.cell?_setCell_same' _ _ _ (by rw [h.c3]; rfl), ?_, fun o' => by rw [World.frozen?_setCell]; exact h.fr o'⟩
  · rw [World.cell?_setCell_other _ _ _ _ (by simp)]; exact h.c0
  · rw [World.cell?_setCell_other _ _ _ _ (by simp)]; exact h.c1
  · rw [World.cell?_setCell_other _ _ _ _ (by simp)]; exact h.c2
  · rw [World.cell?_setCell_other _ _ _ _ (by simp)]; exact h.c4
theorem Box5.set4 {w : World} {X : Nat} {v0 v1 v2 v3 v4 : Value} (h : Box5 w X v0 v1 v2 v3 v4) (v : Value) : Box5 (w.setCell ⟨X, 4, none⟩ v) X v0 v1 v2 v3 v := by
  refine ⟨?_, ?_, ?_, ?_, World.cell?_setCell_same' _ _ _ (by rw [h.c4]; rfl), fun o' => by rw [World.frozen?_setCell]; exact h.fr o'⟩
  · rw [World.cell?_setCell_other _ _ _ _ (by simp)]; exact h.c0
  · rw [World.cell?_setCell_other _ _ _ _ (by simp)]; exact h.c1
  · rw [World.cell?_setCell_other _ _ _ _ (by simp)]; exact h.c2
  · rw [World.cell?_setCell_other _ _ _ _ (by simp)]; exact h.c3
/-- All five. -/
theorem Box5.setAll {w : World} {X : Nat} {v0 v1 v2 v3 v4 : Value} (h : Box5 w X v0 v1 v2 v3 v4) (u0 u1 u2 u3 u4 : Value) : Box5 (((((w.setCell ⟨X, 0, none⟩ u0).setCell ⟨X, 1, none⟩ u1).setCell ⟨X, 2, none⟩ u2).setCell ⟨X, 3, none⟩ u3).setCell ⟨X, 4, none⟩ u4) X u0 u1 u2 u3 u4 :=
  ((((h.set0 u0).set1 u1).set2 u2).set3 u3).set4 u4

/-- The reader is kept where another block is written. -/
theorem RdAt.other {w : World} {R : Nat} {a : Option Addr} {len cap P : Nat} (h : RdAt w R a len cap P) {X : Nat} (hX : X ≠ R) (hB : ∀ b off, a = some ⟨b, off, none⟩ → 0 < len → b ≠ X) (o : Nat) (v : Value) : RdAt (w.setCell ⟨X, o, none⟩ v) R a len cap P := by
  have ne : ∀ i, (⟨X, o, none⟩ : Addr) ≠ ⟨R, i, none⟩ := fun i e => hX (congrArg Addr.block e)
  refine ⟨by rw [World.cell?_setCell_other _ _ _ _ (ne 0)]; exact h.c0, by rw [World.cell?_setCell_other _ _ _ _ (ne 1)]; exact h.c1, by rw [World.frozen?_setCell]; exact h.f1, h.few, ?_⟩
  rcases h.bytes with h0 | ⟨b, off, ha, hb1, hb2, hc⟩
  · exact Or.inl h0
  · by_cases h0 : len = 0
    · exact Or.inl h0
    · refine Or.inr ⟨b, off, ha, hb1, by simpa [World.setCell] using hb2, fun i hi => ?_⟩
      obtain ⟨z, hz, hcc⟩ := hc i hi
      exact ⟨z, hz, by rw [World.cell?_setCell_other _ _ _ _ (fun e => hB b off ha (by omega) (congrArg Addr.block e).symm)]; exact hcc⟩

end Go.Proofs.YtfblpbihpmhgjaaDoor

namespace Go.Proofs.YtfblpbihpmhgjaaDoor
open Go.RowKit

/-- Three cells in block X. -/
structure Box3 (w : World) (X : Nat) (v0 v1 v2 : Value) : Prop where
  c0 : w.cell? ⟨X, 0, none⟩ = some v0
  c1 : w.cell? ⟨X, 1, none⟩ = some v1
  c2 : w.cell? ⟨X, 2, none⟩ = some v2
  fr : ∀ o, w.frozen? ⟨X, o, none⟩ = false
theorem Box3.lt {w : World} {X : Nat} {v0 v1 v2 : Value} (h : Box3 w X v0 v1 v2) : X < w.heap.size := World.block_lt_of_cell? _ _ h.c0
theorem Box3.new (w : World) (T : TypeId) (v0 v1 v2 : Value) : Box3 (w.alloc (.cells #[v0, v1, v2] T)) w.heap.size v0 v1 v2 :=
  ⟨by simp, by simp, by simp, fun o => World.frozen?_alloc_new w _ _ o⟩
theorem Box3.below {w w' : World} {X : Nat} {v0 v1 v2 : Value} (h : Box3 w X v0 v1 v2) (hb : Below w.heap.size w w') : Box3 w' X v0 v1 v2 :=
  ⟨cell_later hb h.c0, cell_later hb h.c1, cell_later hb h.c2, fun o => (hb.frozen (p := ⟨X, o, none⟩) h.lt).trans (h.fr o)⟩
theorem Box3.alloc {w : World} {X : Nat} {v0 v1 v2 : Value} (h : Box3 w X v0 v1 v2) (o : Obj) : Box3 (w.alloc o) X v0 v1 v2 := h.below ((Below.refl _ _).alloc (Nat.le_refl _) _)
theorem Box3.grown {w w' : World} {X R : Nat} {v0 v1 v2 : Value} (h : Box3 w X v0 v1 v2) (hg : w.grownBy w' (some R)) (hn : X ≠ R) : Box3 w' X v0 v1 v2 :=
  ⟨(grown_cell hg (x := ⟨X, 0, none⟩) h.lt hn).trans h.c0, (grown_cell hg (x := ⟨X, 1, none⟩) h.lt hn).trans h.c1, (grown_cell hg (x := ⟨X, 2, none⟩) h.lt hn).trans h.c2, fun o => (World.frozen?_of_block (hg.block X h.lt (fun e => hn (by cases e; rfl)))).trans (h.fr o)⟩
theorem Box3.other {w : World} {X Y : Nat} {v0 v1 v2 : Value} (h : Box3 w X v0 v1 v2) (hn : X ≠ Y) (o : Nat) (v : Value) : Box3 (w.setCell ⟨Y, o, none⟩ v) X v0 v1 v2 := by
  have ne : ∀ i, (⟨Y, o, none⟩ : Addr) ≠ ⟨X, i, none⟩ := fun i e => hn (congrArg Addr.block e).symm
  exact ⟨by rw [World.cell?_setCell_other _ _ _ _ (ne 0)]; exact h.c0, by rw [World.cell?_setCell_other _ _ _ _ (ne 1)]; exact h.c1, by rw [World.cell?_setCell_other _ _ _ _ (ne 2)]; exact h.c2, fun o' => by rw [World.frozen?_setCell]; exact h.fr o'⟩
theorem Box3.setAll {w : World} {X : Nat} {v0 v1 v2 : Value} (h : Box3 w X v0 v1 v2) (u0 u1 u2 : Value) : Box3 (((w.setCell ⟨X, 0, none⟩ u0).setCell ⟨X, 1, none⟩ u1).setCell ⟨X, 2, none⟩ u2) X u0 u1 u2 := by
  refine ⟨?_, ?_, ?_, fun o' => by rw [World.frozen?_setCell, World.frozen?_setCell, World.frozen?_setCell]; exact h.fr o'⟩
  · rw [World.cell?_setCell_other _ _ _ _ (by simp), World.cell?_setCell_other _ _ _ _ (by simp)]
    exact World.cell?_setCell_same' _ _ _ (by rw [h.c0]; rfl)
  · rw [World.cell?_setCell_other _ _ _ _ (by simp)]
    exact World.cell?_setCell_same' _ _ _ (by rw [World.cell?_setCell_other _ _ _ _ (by simp), h.c1]; rfl)
  · exact World.cell?_setCell_same' _ _ _ (by rw [World.cell?_setCell_other _ _ _ _ (by simp), World.cell?_setCell_other _ _ _ _ (by simp), h.c2]; rfl)

end Go.Proofs.YtfblpbihpmhgjaaDoor
