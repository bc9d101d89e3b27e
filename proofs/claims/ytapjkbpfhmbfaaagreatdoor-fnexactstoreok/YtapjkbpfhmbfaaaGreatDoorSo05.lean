/-
  A box of five cells, and what it keeps; no statement of the program stands here.
  A box of three cells, and what it keeps; no statement of the program stands here.
  The program's reader of a log: its next entry, by a walk of its Go text.
  The document's word at a place of a text, by a walk of its Go text.
  Whether a text stands at the head of another, by a walk of the library's Go text.
  What the program's and the document's KeyOk answer at every text, by walks of their Go text.
-/
import Derived.Test.YtapjkbpfhmbfaaaGreatDoorSo03
import Derived.Test.YtapjkbpfhmbfaaaGreatDoorSo04
import Derived.Test.YtapjkbpfhmbfaaaGreatDoorSo01
import Derived.WalkKit
import Derived.WalkSpells
import Derived.WalkLawsBesides
import Derived.Test.YtapjkbpfhmbfaaaGreatDoorProg
import Derived.Test.YtapjkbpfhmbfaaaGreatDoorSo00
namespace Go.Proofs.YtapjkbpfhmbfaaaGreatDoor
open Go.RowKit
structure Box5 (w : World) (X : Nat) (v0 v1 v2 v3 v4 : Value) : Prop where
  c0 : w.cell? ⟨X, 0, none⟩ = some v0
  c1 : w.cell? ⟨X, 1, none⟩ = some v1
  c2 : w.cell? ⟨X, 2, none⟩ = some v2
  c3 : w.cell? ⟨X, 3, none⟩ = some v3
  c4 : w.cell? ⟨X, 4, none⟩ = some v4
  fr : ∀ o, w.frozen? ⟨X, o, none⟩ = false
theorem Box5.lt {w : World} {X : Nat} {v0 v1 v2 v3 v4 : Value} (h : Box5 w X v0 v1 v2 v3 v4) : X < w.heap.size := World.block_lt_of_cell? _ _ h.c0
theorem Box5.new (w : World) (T : TypeId) (v0 v1 v2 v3 v4 : Value) : Box5 (w.alloc (.cells #[v0, v1, v2, v3, v4] T)) w.heap.size v0 v1 v2 v3 v4 :=
  ⟨by simp, by simp, by simp, by simp, by simp, fun o => World.frozen?_alloc_new w _ _ o⟩
theorem Box5.below {w w' : World} {X : Nat} {v0 v1 v2 v3 v4 : Value} (h : Box5 w X v0 v1 v2 v3 v4) (hb : Below w.heap.size w w') : Box5 w' X v0 v1 v2 v3 v4 :=
  ⟨cell_later hb h.c0, cell_later hb h.c1, cell_later hb h.c2, cell_later hb h.c3, cell_later hb h.c4, fun o => (hb.frozen (p := ⟨X, o, none⟩) h.lt).trans (h.fr o)⟩
theorem Box5.alloc {w : World} {X : Nat} {v0 v1 v2 v3 v4 : Value} (h : Box5 w X v0 v1 v2 v3 v4) (o : Obj) : Box5 (w.alloc o) X v0 v1 v2 v3 v4 := h.below ((Below.refl _ _).alloc (Nat.le_refl _) _)
theorem Box5.grown {w w' : World} {X R : Nat} {v0 v1 v2 v3 v4 : Value} (h : Box5 w X v0 v1 v2 v3 v4) (hg : w.grownBy w' (some R)) (hn : X ≠ R) : Box5 w' X v0 v1 v2 v3 v4 :=
  ⟨(grown_cell hg (x := ⟨X, 0, none⟩) h.lt hn).trans h.c0, (grown_cell hg (x := ⟨X, 1, none⟩) h.lt hn).trans h.c1, (grown_cell hg (x := ⟨X, 2, none⟩) h.lt hn).trans h.c2, (grown_cell hg (x := ⟨X, 3, none⟩) h.lt hn).trans h.c3, (grown_cell hg (x := ⟨X, 4, none⟩) h.lt hn).trans h.c4, fun o => (World.frozen?_of_block (hg.block X h.lt (fun e => hn (by cases e; rfl)))).trans (h.fr o)⟩
theorem Box5.other {w : World} {X Y : Nat} {v0 v1 v2 v3 v4 : Value} (h : Box5 w X v0 v1 v2 v3 v4) (hn : X ≠ Y) (o : Nat) (v : Value) : Box5 (w.setCell ⟨Y, o, none⟩ v) X v0 v1 v2 v3 v4 := by
  have ne : ∀ i, (⟨Y, o, none⟩ : Addr) ≠ ⟨X, i, none⟩ := fun i e => hn (congrArg Addr.block e).symm
  exact ⟨by rw [World.cell?_setCell_other _ _ _ _ (ne 0)]; exact h.c0, by rw [World.cell?_setCell_other _ _ _ _ (ne 1)]; exact h.c1, by rw [World.cell?_setCell_other _ _ _ _ (ne 2)]; exact h.c2, by rw [World.cell?_setCell_other _ _ _ _ (ne 3)]; exact h.c3, by rw [World.cell?_setCell_other _ _ _ _ (ne 4)]; exact h.c4, fun o' => by rw [World.frozen?_setCell]; exact h.fr o'⟩
theorem Box5.set0 {w : World} {X : Nat} {v0 v1 v2 v3 v4 : Value} (h : Box5 w X v0 v1 v2 v3 v4) (v : Value) : Box5 (w.setCell ⟨X, 0, none⟩ v) X v v1 v2 v3 v4 := by
  refine ⟨World.cell?_setCell_same' _ _ _ (by rw [h.c0]; rfl), ?_, ?_, ?_, ?_, fun o' => by rw [World.frozen?_setCell]; exact h.fr o'⟩
  · rw [World.cell?_setCell_other _ _ _ _ (by simp)]; exact h.c1
  · rw [World.cell?_setCell_other _ _ _ _ (by simp)]; exact h.c2
  · rw [World.cell?_setCell_other _ _ _ _ (by simp)]; exact h.c3
  · rw [World.cell?_setCell_other _ _ _ _ (by simp)]; exact h.c4
theorem Box5.set1 {w : World} {X : Nat} {v0 v1 v2 v3 v4 : Value} (h : Box5 w X v0 v1 v2 v3 v4) (v : Value) : Box5 (w.setCell ⟨X, 1, none⟩ v) X v0 v v2 v3 v4 := by
  refine ⟨?_, World.cell?_setCell_same' _ _ _ (by rw [h.c1]; rfl), ?_, ?_, ?_, fun o' => by rw [World.frozen?_setCell]; exact h.fr o'⟩
  · rw [World.cell?_setCell_other _ _ _ _ (by simp)]; exact h.c0
  · rw [World.cell?_setCell_other _ _ _ _ (by simp)]; exact h.c2
  · rw [World.cell?_setCell_other _ _ _ _ (by simp)]; exact h.c3
  · rw [World.cell?_setCell_other _ _ _ _ (by simp)]; exact h.c4
theorem Box5.set2 {w : World} {X : Nat} {v0 v1 v2 v3 v4 : Value} (h : Box5 w X v0 v1 v2 v3 v4) (v : Value) : Box5 (w.setCell ⟨X, 2, none⟩ v) X v0 v1 v v3 v4 := by
  refine ⟨?_, ?_, World.cell?_setCell_same' _ _ _ (by rw [h.c2]; rfl), ?_, ?_, fun o' => by rw [World.frozen?_setCell]; exact h.fr o'⟩
  · rw [World.cell?_setCell_other _ _ _ _ (by simp)]; exact h.c0
  · rw [World.cell?_setCell_other _ _ _ _ (by simp)]; exact h.c1
  · rw [World.cell?_setCell_other _ _ _ _ (by simp)]; exact h.c3
  · rw [World.cell?_setCell_other _ _ _ _ (by simp)]; exact h.c4
theorem Box5.set3 {w : World} {X : Nat} {v0 v1 v2 v3 v4 : Value} (h : Box5 w X v0 v1 v2 v3 v4) (v : Value) : Box5 (w.setCell ⟨X, 3, none⟩ v) X v0 v1 v2 v v4 := by
  refine ⟨?_, ?_, ?_, World.cell?_setCell_same' _ _ _ (by rw [h.c3]; rfl), ?_, fun o' => by rw [World.frozen?_setCell]; exact h.fr o'⟩
  · rw [World.cell?_setCell_other _ _ _ _ (by simp)]; exact h.c0
  · rw [World.cell?_setCell_other _ _ _ _ (by simp)]; exact h.c1
  · rw [World.cell?_setCell_other _ _ _ _ (by simp)]; exact h.c2
  · rw [World.cell?_setCell_other _ _ _ _ (by simp)]; exact h.c4
theorem Box5.set4 {w : World} {X : Nat} {v0 v1 v2 v3 v4 : Value} (h : Box5 w X v0 v1 v2 v3 v4) (v : Value) : Box5 (w.setCell ⟨X, 4, none⟩ v) X v0 v1 v2 v3 v := by
  refine ⟨?_, ?_, ?_, ?_, World.cell?_setCell_same' _ _ _ (by rw [h.c4]; rfl), fun o' => by rw [World.frozen?_setCell]; exact h.fr o'⟩
  · rw [World.cell?_setCell_other _ _ _ _ (by simp)]; exact h.c0
  · rw [World.cell?_setCell_other _ _ _ _ (by simp)]; exact h.c1
  · rw [World.cell?_setCell_other _ _ _ _ (by simp)]; exact h.c2
  · rw [World.cell?_setCell_other _ _ _ _ (by simp)]; exact h.c3
theorem Box5.setAll {w : World} {X : Nat} {v0 v1 v2 v3 v4 : Value} (h : Box5 w X v0 v1 v2 v3 v4) (u0 u1 u2 u3 u4 : Value) : Box5 (((((w.setCell ⟨X, 0, none⟩ u0).setCell ⟨X, 1, none⟩ u1).setCell ⟨X, 2, none⟩ u2).setCell ⟨X, 3, none⟩ u3).setCell ⟨X, 4, none⟩ u4) X u0 u1 u2 u3 u4 :=
  ((((h.set0 u0).set1 u1).set2 u2).set3 u3).set4 u4
theorem RdAt.other {w : World} {R : Nat} {a : Option Addr} {len cap P : Nat} (h : RdAt w R a len cap P) {X : Nat} (hX : X ≠ R) (hB : ∀ b off, a = some ⟨b, off, none⟩ → 0 < len → b ≠ X) (o : Nat) (v : Value) : RdAt (w.setCell ⟨X, o, none⟩ v) R a len cap P := by
  have ne : ∀ i, (⟨X, o, none⟩ : Addr) ≠ ⟨R, i, none⟩ := fun i e => hX (congrArg Addr.block e)
  refine ⟨by rw [World.cell?_setCell_other _ _ _ _ (ne 0)]; exact h.c0, by rw [World.cell?_setCell_other _ _ _ _ (ne 1)]; exact h.c1, by rw [World.frozen?_setCell]; exact h.f1, h.few, ?_⟩
  rcases h.bytes with h0 | ⟨b, off, ha, hb1, hb2, hc⟩
  · exact Or.inl h0
  · by_cases h0 : len = 0
    · exact Or.inl h0
    · refine Or.inr ⟨b, off, ha, hb1, by simpa [World.setCell] using hb2, fun i hi => ?_⟩
      obtain ⟨z, hz, hcc⟩ := hc i hi
      exact ⟨z, hz, by rw [World.cell?_setCell_other _ _ _ _ (fun e => hB b off ha (by omega) (congrArg Addr.block e).symm)]; exact hcc⟩
end Go.Proofs.YtapjkbpfhmbfaaaGreatDoor
namespace Go.Proofs.YtapjkbpfhmbfaaaGreatDoor
open Go.RowKit
structure Box3 (w : World) (X : Nat) (v0 v1 v2 : Value) : Prop where
  c0 : w.cell? ⟨X, 0, none⟩ = some v0
  c1 : w.cell? ⟨X, 1, none⟩ = some v1
  c2 : w.cell? ⟨X, 2, none⟩ = some v2
  fr : ∀ o, w.frozen? ⟨X, o, none⟩ = false
theorem Box3.lt {w : World} {X : Nat} {v0 v1 v2 : Value} (h : Box3 w X v0 v1 v2) : X < w.heap.size := World.block_lt_of_cell? _ _ h.c0
theorem Box3.new (w : World) (T : TypeId) (v0 v1 v2 : Value) : Box3 (w.alloc (.cells #[v0, v1, v2] T)) w.heap.size v0 v1 v2 :=
  ⟨by simp, by simp, by simp, fun o => World.frozen?_alloc_new w _ _ o⟩
theorem Box3.below {w w' : World} {X : Nat} {v0 v1 v2 : Value} (h : Box3 w X v0 v1 v2) (hb : Below w.heap.size w w') : Box3 w' X v0 v1 v2 :=
  ⟨cell_later hb h.c0, cell_later hb h.c1, cell_later hb h.c2, fun o => (hb.frozen (p := ⟨X, o, none⟩) h.lt).trans (h.fr o)⟩
theorem Box3.alloc {w : World} {X : Nat} {v0 v1 v2 : Value} (h : Box3 w X v0 v1 v2) (o : Obj) : Box3 (w.alloc o) X v0 v1 v2 := h.below ((Below.refl _ _).alloc (Nat.le_refl _) _)
theorem Box3.grown {w w' : World} {X R : Nat} {v0 v1 v2 : Value} (h : Box3 w X v0 v1 v2) (hg : w.grownBy w' (some R)) (hn : X ≠ R) : Box3 w' X v0 v1 v2 :=
  ⟨(grown_cell hg (x := ⟨X, 0, none⟩) h.lt hn).trans h.c0, (grown_cell hg (x := ⟨X, 1, none⟩) h.lt hn).trans h.c1, (grown_cell hg (x := ⟨X, 2, none⟩) h.lt hn).trans h.c2, fun o => (World.frozen?_of_block (hg.block X h.lt (fun e => hn (by cases e; rfl)))).trans (h.fr o)⟩
theorem Box3.other {w : World} {X Y : Nat} {v0 v1 v2 : Value} (h : Box3 w X v0 v1 v2) (hn : X ≠ Y) (o : Nat) (v : Value) : Box3 (w.setCell ⟨Y, o, none⟩ v) X v0 v1 v2 := by
  have ne : ∀ i, (⟨Y, o, none⟩ : Addr) ≠ ⟨X, i, none⟩ := fun i e => hn (congrArg Addr.block e).symm
  exact ⟨by rw [World.cell?_setCell_other _ _ _ _ (ne 0)]; exact h.c0, by rw [World.cell?_setCell_other _ _ _ _ (ne 1)]; exact h.c1, by rw [World.cell?_setCell_other _ _ _ _ (ne 2)]; exact h.c2, fun o' => by rw [World.frozen?_setCell]; exact h.fr o'⟩
theorem Box3.setAll {w : World} {X : Nat} {v0 v1 v2 : Value} (h : Box3 w X v0 v1 v2) (u0 u1 u2 : Value) : Box3 (((w.setCell ⟨X, 0, none⟩ u0).setCell ⟨X, 1, none⟩ u1).setCell ⟨X, 2, none⟩ u2) X u0 u1 u2 := by
  refine ⟨?_, ?_, ?_, fun o' => by rw [World.frozen?_setCell, World.frozen?_setCell, World.frozen?_setCell]; exact h.fr o'⟩
  · rw [World.cell?_setCell_other _ _ _ _ (by simp), World.cell?_setCell_other _ _ _ _ (by simp)]
    exact World.cell?_setCell_same' _ _ _ (by rw [h.c0]; rfl)
  · rw [World.cell?_setCell_other _ _ _ _ (by simp)]
    exact World.cell?_setCell_same' _ _ _ (by rw [World.cell?_setCell_other _ _ _ _ (by simp), h.c1]; rfl)
  · exact World.cell?_setCell_same' _ _ _ (by rw [World.cell?_setCell_other _ _ _ _ (by simp), World.cell?_setCell_other _ _ _ _ (by simp), h.c2]; rfl)
end Go.Proofs.YtapjkbpfhmbfaaaGreatDoor

namespace Go.Proofs.YtapjkbpfhmbfaaaGreatDoor
set_option maxRecDepth 100000
set_option maxHeartbeats 2000000
open Go.RowKit Go.Shelf
theorem pieceP_len (n : Int) (l : List UInt8) : (pieceP n l).1.length ≤ l.length := by
  rw [pieceP]
  split
  · simp
  · simp only [List.length_take]; omega
theorem ent_w {k t : ByteArray} {q d n : Int} (h1 : k.size ≤ 1048576) (h2 : (Lit.int .i64 q).wf = true) (h3 : (Lit.int .i64 d).wf = true) (h4 : t.size ≤ 1048576) (h5 : (Lit.int .i64 n).wf = true) : EntW (k, q, d, t, n) :=
  ⟨by unfold maxLen; show k.size ≤ _; omega, h2, h3, by unfold maxLen; show t.size ≤ _; omega, h5⟩
theorem wf_range {z : Int} (h : (Lit.int .i64 z).wf = true) : -9223372036854775808 ≤ z ∧ z ≤ 9223372036854775807 := by
  have e1 : IntKind.i64.min = -9223372036854775808 := by decide
  have e2 : IntKind.i64.max = 9223372036854775807 := by decide
  simp [Lit.wf] at h
  omega
theorem LrAt.other {w : World} {X E o : Nat} {t : ByteArray} {k : Nat} {u : Value} (h : LrAt w X t k) (hn : E ≠ X) : LrAt (w.setCell ⟨E, o, none⟩ u) X t k :=
  ⟨(World.cell?_of_block (Below.heap_setCell _ _ _ _ (Ne.symm hn))).trans h.c0, (World.cell?_of_block (Below.heap_setCell _ _ _ _ (Ne.symm hn))).trans h.c1, fun o' => by rw [World.frozen?_setCell]; exact h.fz o', h.le⟩
theorem gStore {a w : World} {X E o : Nat} {u : Value} (h : a.grownBy w (some X)) (hE : a.heap.size ≤ E) : a.grownBy (w.setCell ⟨E, o, none⟩ u) (some X) :=
  ⟨h.os, h.tape, h.output, by simpa [World.setCell] using h.size, fun k hk hn => (Below.heap_setCell _ _ _ _ (fun e => by have e' : k = E := e; omega)).trans (h.block k hk hn)⟩
theorem entry_any (B X k : Nat) (t : ByteArray) (w : World) (h : LrAt w X t k) (ht : t.size ≤ 1048576) (hB : B ≤ X) (hE : ErrB B w) :
    Calls Tryz.prog 244 #[.pointer (some ⟨X, 0, none⟩)] w fun e w' => ∃ (kk tt : ByteArray) (q d n : Int) (j : Nat), e = .returned (.agg #[.string kk, .int .i64 q, .int .i64 d, .string tt, .int .i64 n]) ∧ ((kk, q, d, tt, n), t.data.toList.drop j) = entP (t.data.toList.drop k) ∧ EntW (kk, q, d, tt, n) ∧ LrAt w' X t j ∧ w.grownBy w' (some X) := by
  have HL : Hid (LrAt w X t k) := h
  have HE : Hid (ErrB B w) := hE
  have hX := h.lt
  clear h hE
  go_enter Tryz.func244, Tryz.ntmps244
  obtain ⟨W0, hW0⟩ : ∃ W, W = w.alloc (.cells #[.string ⟨#[]⟩, .int .i64 0, .int .i64 0, .string ⟨#[]⟩, .int .i64 0] 87) := ⟨_, rfl⟩
  have k0 : Below w.heap.size w W0 := by rw [hW0]; exact (Below.refl _ _).alloc (Nat.le_refl _) _
  have A0 : Box5 W0 w.heap.size (.string ⟨#[]⟩) (.int .i64 0) (.int .i64 0) (.string ⟨#[]⟩) (.int .i64 0) := by rw [hW0]; exact Box5.new _ _ _ _ _ _ _
  have L0 := HL.out.below k0
  have G0 : w.grownBy W0 (some X) := gOf k0 _
  go_wp2_with fail
  rw [← hW0]
  clear hW0 k0
  obtain ⟨A, hA⟩ : ∃ A, A = w.heap.size := ⟨_, rfl⟩
  have hAX : X < A := by omega
  have HA : Hid (A = w.heap.size) := hA
  rw [← hA] at A0
  simp only [← hA]
  clear hA
  refine (word_any X k t _ L0 ht).mono ?_
  rintro e w1 ⟨s, j1, rfl, hs, L1, g1⟩
  have HS : Hid ((s.data.toList, t.data.toList.drop j1) = wordP (t.data.toList.drop k)) := hs
  have A1 := A0.grown g1 (by omega)
  have G1 := gTr G0 g1
  clear hs g1 L0 A0 G0
  obtain ⟨W1, hW1⟩ : ∃ W, W = w1.alloc (.cells #[.string s, .int .i64 0, .int .i64 0, .string ⟨#[]⟩, .int .i64 0] 87) := ⟨_, rfl⟩
  have k1 : Below w1.heap.size w1 W1 := by rw [hW1]; exact (Below.refl _ _).alloc (Nat.le_refl _) _
  have E1 : Box5 W1 w1.heap.size (.string s) (.int .i64 0) (.int .i64 0) (.string ⟨#[]⟩) (.int .i64 0) := by rw [hW1]; exact Box5.new _ _ _ _ _ _ _
  have M1 := L1.below k1
  have B1 := A1.below k1
  have H1 := gTr G1 (gOf k1 _)
  have hAE : A < w1.heap.size := A1.lt
  go_wp2_with fail
  rw [← hW1]
  obtain ⟨E, hE⟩ : ∃ E, E = w1.heap.size := ⟨_, rfl⟩
  rw [← hE] at E1 hAE
  simp only [← hE]
  clear hE hW1 k1 L1 A1 G1
  have RE1 : ErrB B W1 := fun w' kk => HE.out w' ((low_of_grown H1 hB hX).trans kk)
  refine (number_any B X j1 t _ M1 ht hB RE1).mono ?_
  rintro e w2 ⟨q, j2, rfl, hq, hwq, L2, g2⟩
  have HS2 : Hid ((q, t.data.toList.drop j2) = numP (t.data.toList.drop j1)) := hq
  have A2 := B1.grown g2 (by omega)
  have F2 := E1.grown g2 (by omega)
  have G2 := gTr H1 g2
  clear hq g2 M1 B1 E1 H1 RE1
  have f0 := F2.c1
  have f1 : w2.frozen? ⟨E, 1, none⟩ = false := F2.fr 1
  have hEl := F2.lt
  go_wp2_with fail
  obtain ⟨W2, hW2⟩ : ∃ W, W = w2.setCell ⟨E, 1, none⟩ (.int .i64 q) := ⟨_, rfl⟩
  have E2 : Box5 W2 E (.string s) (.int .i64 q) (.int .i64 0) (.string ⟨#[]⟩) (.int .i64 0) := by rw [hW2]; exact F2.set1 _
  have M2 : LrAt W2 X t j2 := by rw [hW2]; exact L2.other (by omega)
  have B2 : Box5 W2 A (.string ⟨#[]⟩) (.int .i64 0) (.int .i64 0) (.string ⟨#[]⟩) (.int .i64 0) := by rw [hW2]; exact A2.other (by omega) _ _
  have H2 : w.grownBy W2 (some X) := by rw [hW2]; exact gStore G2 (by have := HA.out; omega)
  rw [← hW2]
  clear hW2 F2 L2 A2 G2 f0 f1 hEl
  have RE2 : ErrB B W2 := fun w' kk => HE.out w' ((low_of_grown H2 hB hX).trans kk)
  refine (number_any B X j2 t _ M2 ht hB RE2).mono ?_
  rintro e w3 ⟨d, j3, rfl, hd, hwd, L3, g3⟩
  have HS3 : Hid ((d, t.data.toList.drop j3) = numP (t.data.toList.drop j2)) := hd
  have A3 := B2.grown g3 (by omega)
  have F3 := E2.grown g3 (by omega)
  have G3 := gTr H2 g3
  clear hd g3 M2 B2 E2 H2 RE2
  have f0 := F3.c2
  have f1 : w3.frozen? ⟨E, 2, none⟩ = false := F3.fr 2
  have hEl := F3.lt
  go_wp2_with fail
  obtain ⟨W3, hW3⟩ : ∃ W, W = w3.setCell ⟨E, 2, none⟩ (.int .i64 d) := ⟨_, rfl⟩
  have E3 : Box5 W3 E (.string s) (.int .i64 q) (.int .i64 d) (.string ⟨#[]⟩) (.int .i64 0) := by rw [hW3]; exact F3.set2 _
  have M3 : LrAt W3 X t j3 := by rw [hW3]; exact L3.other (by omega)
  have B3 : Box5 W3 A (.string ⟨#[]⟩) (.int .i64 0) (.int .i64 0) (.string ⟨#[]⟩) (.int .i64 0) := by rw [hW3]; exact A3.other (by omega) _ _
  have H3 : w.grownBy W3 (some X) := by rw [hW3]; exact gStore G3 (by have := HA.out; omega)
  rw [← hW3]
  clear hW3 F3 L3 A3 G3 f0 f1 hEl
  have RE3 : ErrB B W3 := fun w' kk => HE.out w' ((low_of_grown H3 hB hX).trans kk)
  refine (number_any B X j3 t _ M3 ht hB RE3).mono ?_
  rintro e w4 ⟨m, j4, rfl, hm, hwm, L4, g4⟩
  have HS4 : Hid ((m, t.data.toList.drop j4) = numP (t.data.toList.drop j3)) := hm
  have A4 := B3.grown g4 (by omega)
  have F4 := E3.grown g4 (by omega)
  have G4 := gTr H3 g4
  clear hm g4 M3 B3 E3 H3 RE3
  have f0 := F4.c4
  have f1 : w4.frozen? ⟨E, 4, none⟩ = false := F4.fr 4
  have hEl := F4.lt
  go_wp2_with fail
  obtain ⟨W4, hW4⟩ : ∃ W, W = w4.setCell ⟨E, 4, none⟩ (.int .i64 m) := ⟨_, rfl⟩
  have E4 : Box5 W4 E (.string s) (.int .i64 q) (.int .i64 d) (.string ⟨#[]⟩) (.int .i64 m) := by rw [hW4]; exact F4.set4 _
  have M4 : LrAt W4 X t j4 := by rw [hW4]; exact L4.other (by omega)
  have B4 : Box5 W4 A (.string ⟨#[]⟩) (.int .i64 0) (.int .i64 0) (.string ⟨#[]⟩) (.int .i64 0) := by rw [hW4]; exact A4.other (by omega) _ _
  have H4 : w.grownBy W4 (some X) := by rw [hW4]; exact gStore G4 (by have := HA.out; omega)
  rw [← hW4]
  clear hW4 F4 L4 A4 G4 f0 f1 hEl
  have RE4 : ErrB B W4 := fun w' kk => HE.out w' ((low_of_grown H4 hB hX).trans kk)
  refine (number_any B X j4 t _ M4 ht hB RE4).mono ?_
  rintro e w5 ⟨z, j5, rfl, hz, hwz, L5, g5⟩
  have HS5 : Hid ((z, t.data.toList.drop j5) = numP (t.data.toList.drop j4)) := hz
  have A5 := B4.grown g5 (by omega)
  have F5 := E4.grown g5 (by omega)
  have G5 := gTr H4 g5
  clear hz g5 M4 B4 E4 H4 RE4
  have hzr : -9223372036854775808 ≤ z ∧ z ≤ 9223372036854775807 := wf_range hwz
  go_wp2_with fail
  refine (piece_any X j5 t z _ L5 ht hzr.1 hzr.2).mono ?_
  rintro e w6 ⟨u, j6, rfl, hu, L6, g6⟩
  have HS6 : Hid ((u.data.toList, t.data.toList.drop j6) = pieceP z (t.data.toList.drop j5)) := hu
  have A6 := A5.grown g6 (by omega)
  have F6 := F5.grown g6 (by omega)
  have G6 := gTr G5 g6
  clear hu g6 A5 F5 G5 L5
  have f0 := F6.c0
  have f1 := F6.c1
  have f2 := F6.c2
  have f3 := F6.c3
  have f4 := F6.c4
  have a0 := A6.c0
  have a1 := A6.c1
  have a2 := A6.c2
  have a3 := A6.c3
  have a4 := A6.c4
  have b0 : w6.frozen? ⟨A, 0, none⟩ = false := A6.fr 0
  have b1 : w6.frozen? ⟨A, 1, none⟩ = false := A6.fr 1
  have b2 : w6.frozen? ⟨A, 2, none⟩ = false := A6.fr 2
  have b3 : w6.frozen? ⟨A, 3, none⟩ = false := A6.fr 3
  have b4 : w6.frozen? ⟨A, 4, none⟩ = false := A6.fr 4
  have ff : w6.frozen? ⟨E, 3, none⟩ = false := F6.fr 3
  have hEl := F6.lt
  have hAl := A6.lt
  have hne : E ≠ A := by omega
  have hne' : A ≠ E := by omega
  have HF : Hid (((s, q, d, u, m), t.data.toList.drop j6) = entP (t.data.toList.drop k)) := by
    show _ = _
    simp only [entP, ← HS.out, ← HS2.out, ← HS3.out, ← HS4.out, ← HS5.out, ← HS6.out]
  have HL6 : Hid (LrAt (((((((w6.setCell ⟨E, 3, none⟩ (.string u)).setCell ⟨A, 0, none⟩ (.string s)).setCell ⟨A, 1, none⟩ (.int .i64 q)).setCell ⟨A, 2, none⟩ (.int .i64 d)).setCell ⟨A, 3, none⟩ (.string u)).setCell ⟨A, 4, none⟩ (.int .i64 m))) X t j6) := (((((L6.other (by omega)).other (by omega)).other (by omega)).other (by omega)).other (by omega)).other (by omega)
  have HG6 : Hid (w.grownBy (((((((w6.setCell ⟨E, 3, none⟩ (.string u)).setCell ⟨A, 0, none⟩ (.string s)).setCell ⟨A, 1, none⟩ (.int .i64 q)).setCell ⟨A, 2, none⟩ (.int .i64 d)).setCell ⟨A, 3, none⟩ (.string u)).setCell ⟨A, 4, none⟩ (.int .i64 m))) (some X)) := gStore (gStore (gStore (gStore (gStore (gStore G6 (by have := HA.out; omega)) (by have := HA.out; omega)) (by have := HA.out; omega)) (by have := HA.out; omega)) (by have := HA.out; omega)) (by have := HA.out; omega)
  have HWF : Hid (EntW (s, q, d, u, m)) := by
    have e1 := wordP_len (t.data.toList.drop k)
    rw [← HS.out] at e1
    have e2 := pieceP_len z (t.data.toList.drop j5)
    rw [← HS6.out] at e2
    simp only [List.length_drop, bytes_len] at e1 e2
    exact ent_w (by omega) hwq hwd (by omega) hwm
  clear A6 F6 G6 L6
  go_wp2
  exact bodyPost_ret (v := .agg #[.string s, .int .i64 q, .int .i64 d, .string u, .int .i64 m]) (by simp [results, Tryz.results244, go_sem, a0, a1, a2, a3, a4]) rfl ⟨s, u, q, d, m, j6, rfl, HF.out, HWF.out, HL6.out, HG6.out⟩
end Go.Proofs.YtapjkbpfhmbfaaaGreatDoor

namespace Go.Proofs.YtapjkbpfhmbfaaaGreatDoor
open Go.RowKit
set_option maxRecDepth 100000
set_option maxHeartbeats 1000000
theorem ext_toList (t : ByteArray) (k j : Nat) : (t.extract k j).data.toList = (t.data.toList.drop k).take (j - k) := by rw [ByteArray.data_extract, Array.toList_extract, List.extract_eq_take_drop]
theorem List.drop_drop_sub {l : List UInt8} {k j : Nat} (h : k ≤ j) : (l.drop k).drop (j - k) = l.drop j := by rw [List.drop_drop]; congr 1; omega
theorem specWord (t : ByteArray) (k : Nat) (w : World) (hk : k ≤ t.size) (ht : t.size ≤ 1048576) :
    Calls Tryz.prog 236 #[.string t, .int .i64 (k : Int)] w fun e w' => ((∃ j, k ≤ j ∧ j < t.size ∧ t.data.toList.drop k = (t.extract k j).data.toList ++ 32 :: t.data.toList.drop (j + 1) ∧ (32 : UInt8) ∉ (t.extract k j).data.toList ∧ e = .returned (.tuple #[.string (t.extract k j), .int .i64 ((j : Int) + 1)])) ∨ ((32 : UInt8) ∉ t.data.toList.drop k ∧ e = .returned (.tuple #[.string ⟨#[]⟩, .int .i64 (-1)]))) ∧ Below w.heap.size w w' := by
  go_enter Tryz.func236, Tryz.ntmps236
  go_wp2
  go_loopw [6] (fun i wr => ∃ j : Nat, k ≤ j ∧ j ≤ t.size ∧ i = .int .i64 (j : Int) ∧ (32 : UInt8) ∉ (t.extract k j).data.toList ∧ Below w.heap.size w wr) (fun i _ => t.size - (intOf i).toNat)
  case atStart => exact ⟨k, Nat.le_refl _, hk, rfl, by rw [ext_toList]; simp, Below.refl _ _⟩
  case round =>
    obtain ⟨j, hkj, hjt, rfl, hno, hb⟩ := hrel
    have HNO : Hid ((32 : UInt8) ∉ (t.extract k j).data.toList) := hno
    clear hno
    by_cases hlt : j < t.size
    · have hltI : (j : Int) < (t.size : Int) := by omega
      obtain ⟨x, hx⟩ : ∃ x, x = t[j] := ⟨_, rfl⟩
      by_cases hxc : x = 32
      · have hq : ((t[j]).toNat : Int) = 32 := by rw [← hx, hxc]; rfl
        have hqb : (((t[j]).toNat : Int) == 32) = true := by simpa using hq
        have HR : Hid (t.data.toList.drop k = (t.extract k j).data.toList ++ 32 :: t.data.toList.drop (j + 1)) := by
          show _ = _
          rw [ext_toList, ← hxc, hx, ← drop_at t j hlt, ← List.drop_drop_sub hkj]
          exact (List.take_append_drop _ _).symm
        have hkI : (k : Int) ≤ (j : Int) := by omega
        have hjI : (j : Int) ≤ (t.size : Int) := by omega
        clear hx hxc hq
        go_wp2
        exact bodyPost_ret (v := .tuple #[.string (t.extract k j), .int .i64 ((j : Int) + 1)]) (by simp [results, Tryz.results236, go_sem]) rfl ⟨Or.inl ⟨j, hkj, hlt, HR.out, HNO.out, rfl⟩, hb⟩
      · have hq : ¬ ((t[j]).toNat : Int) = 32 := by
          rw [← hx]
          intro e
          apply hxc
          apply UInt8.toNat_inj.1
          show x.toNat = 32
          omega
        have hqb : (((t[j]).toNat : Int) == 32) = false := by rw [beq_eq_false_iff_ne]; exact hq
        have HN2 : Hid ((32 : UInt8) ∉ (t.extract k (j + 1)).data.toList) := by
          show _ ∉ _
          have := HNO.out
          rw [ext_toList] at this ⊢
          rw [show j + 1 - k = (j - k) + 1 by omega, List.take_add_one, List.mem_append]
          rintro (h | h)
          · exact this h
          · rw [List.getElem?_drop, show k + (j - k) = j by omega] at h
            have hg : t.data.toList[j]? = some x := by
              rw [hx, Array.getElem?_toList]
              exact Array.getElem?_eq_getElem hlt
            rw [hg] at h
            simp at h
            exact hxc h.symm
        clear hx hxc hq
        go_wp2
        go_roundw
        case rel => exact ⟨j + 1, by omega, by omega, by go_num, HN2.out, hb⟩
        case measure => simp [intOf]; omega
    · have hje : j = t.size := by omega
      have HN3 : Hid ((32 : UInt8) ∉ t.data.toList.drop k) := by
        have := HNO.out
        rw [ext_toList, hje, List.take_of_length_le (by rw [List.length_drop, bytes_len]; omega)] at this
        exact this
      clear hje
      go_wp2
      exact bodyPost_ret (v := .tuple #[.string ⟨#[]⟩, .int .i64 (-1)]) (by simp [results, Tryz.results236, go_sem]) rfl ⟨Or.inr ⟨HN3.out, rfl⟩, hb⟩
end Go.Proofs.YtapjkbpfhmbfaaaGreatDoor

namespace Go.Proofs.YtapjkbpfhmbfaaaGreatDoor
open Go.RowKit
set_option maxRecDepth 100000
set_option maxHeartbeats 1000000
theorem head_iff {s p : ByteArray} : ((s.extract 0 p.size).toList == p.toList) = true ↔ p.data.toList <+: s.data.toList := by
  have e1 : (s.extract 0 p.size).data.toList = s.data.toList.take p.size := by rw [ext_toList]; simp
  rw [beq_iff_eq, ByteArray.toList_eq, ByteArray.toList_eq, e1]
  constructor
  · intro e
    rw [← e]
    exact List.take_prefix _ _
  · rintro ⟨r, hr⟩
    rw [← hr]
    have : p.data.toList.length = p.size := bytes_len p
    rw [List.take_append_of_le_length (by omega), List.take_of_length_le (by omega)]
theorem head_no {s p : ByteArray} (h : s.size < p.size) : ¬ p.data.toList <+: s.data.toList := fun hp => by
  have := hp.length_le
  rw [bytes_len, bytes_len] at this
  omega
def HeadE (s p : ByteArray) (e : Ending) : Prop := ∃ b, e = .returned (.bool b) ∧ (b = true ↔ p.data.toList <+: s.data.toList)
theorem hasPrefix_in (s p : ByteArray) (w : World) :
    Calls Tryz.prog 271 #[.string s, .string p] w fun e w' => HeadE s p e ∧ Below w.heap.size w w' := by
  by_cases hlt : s.size < p.size
  · have hI : ¬ (p.size : Int) ≤ (s.size : Int) := by omega
    have hd : decide ((p.size : Int) ≤ (s.size : Int)) = false := decide_eq_false hI
    go_enter Tryz.func271, Tryz.ntmps271
    go_wp2
    go_ret
    exact ⟨⟨false, rfl, Iff.intro (fun h => by simp at h) (fun h => absurd h (head_no hlt))⟩, Below.refl _ _⟩
  · have hI : (p.size : Int) ≤ (s.size : Int) := by omega
    go_enter Tryz.func271, Tryz.ntmps271
    go_wp2
    go_ret
    exact ⟨⟨_, rfl, head_iff⟩, Below.refl _ _⟩
theorem hasPrefix_any (s p : ByteArray) (w : World) :
    Calls Tryz.prog 245 #[.string s, .string p] w fun e w' => HeadE s p e ∧ Below w.heap.size w w' := by
  go_enter Tryz.func245, Tryz.ntmps245
  go_wp2_with fail
  refine (hasPrefix_in s p _).mono ?_
  rintro e w1 ⟨⟨b, rfl, hb⟩, hk⟩
  have HB : Hid (b = true ↔ p.data.toList <+: s.data.toList) := hb
  clear hb
  go_wp2
  go_ret
  exact ⟨⟨b, rfl, HB.out⟩, hk⟩
end Go.Proofs.YtapjkbpfhmbfaaaGreatDoor

namespace Go.Proofs.YtapjkbpfhmbfaaaGreatDoor
open Go.RowKit
set_option maxHeartbeats 400000 in
theorem specKey (s : ByteArray) (w : World) (hs : s.size ≤ maxLen) :
    Calls Tryz.prog 184 #[.string s] w fun e w' => e = .returned (.bool (keyB s)) ∧ w' = w := by
  unfold maxLen at hs
  go_enter Tryz.func184, Tryz.ntmps184
  go_wp2
  go_loop [3] (fun i => ∃ k : Nat, k ≤ s.size ∧ i = .int .i64 k ∧ (s.data.toList.take k).all keyC = true) (fun i => s.size - (intOf i).toNat)
  case atStart => exact ⟨0, Nat.zero_le _, rfl, rfl⟩
  case round =>
    obtain ⟨k, hk, rfl, hall⟩ := hrel
    have HA : Hid ((s.data.toList.take k).all keyC = true) := hall
    clear hall
    by_cases hlt : k < s.size
    · cases hb : keyC s[k] with
      | true =>
        have h3 := keyC_true hb
        have HB : Hid (keyC s[k] = true) := hb
        clear hb
        rcases h3 with ⟨h31, h32⟩ | ⟨h31, h32⟩
        · go_wp2
          go_round
          case rel => exact ⟨k + 1, by omega, by go_num, key_take_snoc s k hlt HA.out HB.out⟩
          case measure => simp [intOf]; omega
        · go_wp2
          go_round
          case rel => exact ⟨k + 1, by omega, by go_num, key_take_snoc s k hlt HA.out HB.out⟩
          case measure => simp [intOf]; omega
      | false =>
        have h3 := keyC_false hb
        have HB : Hid (keyC s[k] = false) := hb
        clear hb
        rcases h3 with h3 | ⟨h3, h4⟩ | h3
        · go_wp2
          go_ret
          exact ⟨ret_bool (key_false_of s k hlt HB.out).symm, rfl⟩
        · go_wp2
          go_ret
          exact ⟨ret_bool (key_false_of s k hlt HB.out).symm, rfl⟩
        · go_wp2
          go_ret
          exact ⟨ret_bool (key_false_of s k hlt HB.out).symm, rfl⟩
    · go_wp2
      all_goals
        go_ret
        refine ⟨ret_bool ?_, rfl⟩
        rw [keyB_of_all s k (by omega) HA.out]
        first | exact sz8_yes _ (by omega) | exact sz8_no _ (by omega)
set_option maxHeartbeats 400000 in
theorem isKey_yes (b : Int) (w : World) (h : (97 ≤ b ∧ b ≤ 122) ∨ (47 ≤ b ∧ b ≤ 57)) : Calls Tryz.prog 252 #[.int .u8 b] w fun e w' => e = .returned (.bool true) ∧ w' = w := by
  rcases h with ⟨h1, h2⟩ | ⟨h1, h2⟩
  · go_enter Tryz.func252, Tryz.ntmps252
    go_wp2
    all_goals
      go_ret
      exact ⟨rfl, rfl⟩
  · by_cases h3 : b = 47
    · subst h3
      go_enter Tryz.func252, Tryz.ntmps252
      go_wp2
      all_goals
        go_ret
        exact ⟨rfl, rfl⟩
    · have h4 : 48 ≤ b := by omega
      go_enter Tryz.func252, Tryz.ntmps252
      go_wp2
      all_goals
        go_ret
        exact ⟨rfl, rfl⟩
set_option maxHeartbeats 400000 in
theorem isKey_no (b : Int) (w : World) (h : b < 47 ∨ (57 < b ∧ b < 97) ∨ 122 < b) : Calls Tryz.prog 252 #[.int .u8 b] w fun e w' => e = .returned (.bool false) ∧ w' = w := by
  have hd : (b == 47) = false := by rw [beq_eq_false_iff_ne]; omega
  have hd' : ¬ b = 47 := by omega
  rcases h with h | ⟨h, h'⟩ | h
  · go_enter Tryz.func252, Tryz.ntmps252
    go_wp2
    all_goals
      go_ret
      exact ⟨ret_bool (by first | rfl | (simp; omega) | simp), rfl⟩
  · go_enter Tryz.func252, Tryz.ntmps252
    go_wp2
    all_goals
      go_ret
      exact ⟨ret_bool (by first | rfl | (simp; omega) | simp), rfl⟩
  · go_enter Tryz.func252, Tryz.ntmps252
    go_wp2
    all_goals
      go_ret
      exact ⟨ret_bool (by first | rfl | (simp; omega) | simp), rfl⟩
set_option maxHeartbeats 400000 in
theorem implKey (s : ByteArray) (w : World) (hs : s.size ≤ maxLen) :
    Calls Tryz.prog 209 #[.string s] w fun e w' => e = .returned (.bool (keyB s)) ∧ w' = w := by
  unfold maxLen at hs
  by_cases h1 : s.size < 1
  · go_enter Tryz.func209, Tryz.ntmps209
    go_wp2
    go_ret
    exact ⟨ret_bool (keyB_small s h1).symm, rfl⟩
  by_cases h4 : 8 < s.size
  · go_enter Tryz.func209, Tryz.ntmps209
    go_wp2
    go_ret
    exact ⟨ret_bool (keyB_big s h4).symm, rfl⟩
  go_enter Tryz.func209, Tryz.ntmps209
  go_wp2
  go_loop [14] (fun i => ∃ k : Nat, k ≤ s.size ∧ i = .int .i64 k ∧ (s.data.toList.take k).all keyC = true) (fun i => s.size - (intOf i).toNat)
  case atStart => exact ⟨0, Nat.zero_le _, rfl, rfl⟩
  case round =>
    obtain ⟨k, hk, rfl, hall⟩ := hrel
    have HA : Hid ((s.data.toList.take k).all keyC = true) := hall
    clear hall
    by_cases hlt : k < s.size
    · cases hb : keyC s[k] with
      | true =>
        have h3 := keyC_true hb
        have H3 : Hid ((97 ≤ ((s[k]).toNat : Int) ∧ ((s[k]).toNat : Int) ≤ 122) ∨ (47 ≤ ((s[k]).toNat : Int) ∧ ((s[k]).toNat : Int) ≤ 57)) := h3
        have HB : Hid (keyC s[k] = true) := hb
        clear hb h3
        go_wp2_with (go_at_call 252; refine (isKey_yes _ _ H3.out).mono ?_; rintro e w' ⟨rfl, rfl⟩)
        go_round
        case rel => exact ⟨k + 1, by omega, by go_num, key_take_snoc s k hlt HA.out HB.out⟩
        case measure => simp [intOf]; omega
      | false =>
        have h3 := keyC_false hb
        have H3 : Hid (((s[k]).toNat : Int) < 47 ∨ (57 < ((s[k]).toNat : Int) ∧ ((s[k]).toNat : Int) < 97) ∨ 122 < ((s[k]).toNat : Int)) := h3
        have HB : Hid (keyC s[k] = false) := hb
        clear hb h3
        go_wp2_with (go_at_call 252; refine (isKey_no _ _ H3.out).mono ?_; rintro e w' ⟨rfl, rfl⟩)
        go_ret
        exact ⟨ret_bool (key_false_of s k hlt HB.out).symm, rfl⟩
    · go_wp2
      go_ret
      exact ⟨ret_bool (keyB_all s (by omega) (by omega) k (by omega) HA.out).symm, rfl⟩
end Go.Proofs.YtapjkbpfhmbfaaaGreatDoor
