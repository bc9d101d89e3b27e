/-
  Boxes and readers that a draw keeps; no statement of the program stands here.
-/
import Derived.Test.YtcabinakcmpkeaaDoorDraw2
import Derived.Test.YtcabinakcmpkeaaDoorAppend
namespace Go.Proofs.YtcabinakcmpkeaaDoor
open Go.RowKit

/-- A number that is small. -/
def Small (z : Int) : Prop := 1 ≤ z ∧ z ≤ 1000

/-- The bytes that the reader reads lie ahead of it. -/
def Low (a : Option Addr) (len R : Nat) : Prop := len = 0 ∨ ∀ b off, a = some ⟨b, off, none⟩ → b < R

theorem rd_store {w : World} {R : Nat} {a : Option Addr} {len cap P : Nat} (h : RdAt w R a len cap P) (h0 : Low a len R) {p : Addr} (hp : R < p.block) (u : Value) : RdAt (w.setCell p u) R a len cap P where
  c0 := by rw [World.cell?_of_block (w := w) (Below.heap_setCell _ _ _ _ (by simp; omega))]; exact h.c0
  c1 := by rw [World.cell?_of_block (w := w) (Below.heap_setCell _ _ _ _ (by simp; omega))]; exact h.c1
  f1 := by rw [World.frozen?_setCell]; exact h.f1
  few := h.few
  bytes := by
    rcases h.bytes with e | ⟨b, off, ha, hb1, hb2, hc⟩
    · exact Or.inl e
    · rcases h0 with e | h0
      · exact Or.inl e
      refine Or.inr ⟨b, off, ha, hb1, by simpa [World.setCell] using hb2, fun i hi => ?_⟩
      obtain ⟨z, hz, hcc⟩ := hc i hi
      have := h0 b off ha
      exact ⟨z, hz, by rw [World.cell?_of_block (w := w) (Below.heap_setCell _ _ _ _ (by simp; omega))]; exact hcc⟩

theorem grown_store {w : World} {R : Option Nat} {a : World} {p : Addr} (h : a.grownBy w R) (hp : a.heap.size ≤ p.block) (u : Value) : a.grownBy (w.setCell p u) R :=
  ⟨h.os, h.tape, h.output, by simpa [World.setCell] using h.size, fun k hk hn => (Below.heap_setCell _ _ _ _ (by omega)).trans (h.block k hk hn)⟩
theorem grown_alloc {w : World} {R : Option Nat} {a : World} (h : a.grownBy w R) (o : Obj) : a.grownBy (w.alloc o) R := grown_trans h (World.grownBy_alloc w o R)

/-- A box of two cells, which may be written. -/
structure Box2 (w : World) (b : Nat) (u v : Value) : Prop where
  c0 : w.cell? ⟨b, 0, none⟩ = some u
  c1 : w.cell? ⟨b, 1, none⟩ = some v
  f0 : w.frozen? ⟨b, 0, none⟩ = false
  f1 : w.frozen? ⟨b, 1, none⟩ = false

theorem Box2.lt {w : World} {b : Nat} {u v : Value} (h : Box2 w b u v) : b < w.heap.size := World.block_lt_of_cell? w _ h.c0
theorem Box2.new (w : World) (t : TypeId) (u v : Value) : Box2 (w.alloc (.cells #[u, v] t)) w.heap.size u v := ⟨by simp, by simp, by simp, by simp⟩
theorem Box2.grown {w w' : World} {b : Nat} {u v : Value} {row : Option Nat} (h : Box2 w b u v) (hg : w.grownBy w' row) (hne : some b ≠ row) : Box2 w' b u v :=
  ⟨hg.cell h.c0 hne, hg.cell h.c1 hne, (grown_frozen hg (x := ⟨b, 0, none⟩) h.lt hne).trans h.f0, (grown_frozen hg (x := ⟨b, 1, none⟩) h.lt hne).trans h.f1⟩
theorem Box2.gR {w w' : World} {b R : Nat} {u v : Value} (h : Box2 w b u v) (hg : w.grownBy w' (some R)) (hR : R < b) : Box2 w' b u v := h.grown hg (fun e => by cases e; omega)
theorem Box2.below {w w' : World} {b : Nat} {u v : Value} (h : Box2 w b u v) (hb : Below w.heap.size w w') : Box2 w' b u v := h.grown (grown_below (R := none) hb) (by simp)
theorem Box2.alloc {w : World} {b : Nat} {u v : Value} (h : Box2 w b u v) (o : Obj) : Box2 (w.alloc o) b u v := h.below ((Below.refl _ _).alloc (Nat.le_refl _) _)
theorem Box2.other {w : World} {b : Nat} {u v : Value} (h : Box2 w b u v) {p : Addr} (hp : p.block ≠ b) (x : Value) : Box2 (w.setCell p x) b u v :=
  h.grown (row := some p.block) ⟨rfl, rfl, rfl, by simp [World.setCell], fun k _ hk => Below.heap_setCell _ _ _ _ (fun e => hk (by rw [e]))⟩ (fun e => hp (by cases e; rfl))
theorem Box2.set1 {w : World} {b : Nat} {u v : Value} (h : Box2 w b u v) (x : Value) : Box2 (w.setCell ⟨b, 1, none⟩ x) b u x :=
  ⟨by rw [World.cell?_setCell_other _ _ _ _ (by simp)]; exact h.c0, World.cell?_setCell_same' _ _ _ (by rw [h.c1]; rfl), by rw [World.frozen?_setCell]; exact h.f0, by rw [World.frozen?_setCell]; exact h.f1⟩
theorem Box2.set0 {w : World} {b : Nat} {u v : Value} (h : Box2 w b u v) (x : Value) : Box2 (w.setCell ⟨b, 0, none⟩ x) b x v :=
  ⟨World.cell?_setCell_same' _ _ _ (by rw [h.c0]; rfl), by rw [World.cell?_setCell_other _ _ _ _ (by simp)]; exact h.c1, by rw [World.frozen?_setCell]; exact h.f0, by rw [World.frozen?_setCell]; exact h.f1⟩

theorem RdAt.grown {w w' : World} {R : Nat} {a : Option Addr} {len cap P : Nat} {row : Option Nat} (h : RdAt w R a len cap P) (hg : w.grownBy w' row) (hlow : Low a len R) (hR : ∀ k, row = some k → R < k) : RdAt w' R a len cap P where
  c0 := hg.cell h.c0 (fun e => by have := hR _ e.symm; simp at this)
  c1 := hg.cell h.c1 (fun e => by have := hR _ e.symm; simp at this)
  f1 := (grown_frozen hg (x := ⟨R, 1, none⟩) h.lt (fun e => by have := hR _ e.symm; simp at this)).trans h.f1
  few := h.few
  bytes := by
    rcases h.bytes with e | ⟨b, off, ha, hb1, hb2, hc⟩
    · exact Or.inl e
    · rcases hlow with e | hlow
      · exact Or.inl e
      refine Or.inr ⟨b, off, ha, hb1, Nat.lt_of_lt_of_le hb2 hg.size, fun i hi => ?_⟩
      obtain ⟨z, hz, hcc⟩ := hc i hi
      have := hlow b off ha
      exact ⟨z, hz, hg.cell hcc (fun e => by have := hR _ e.symm; simp at this; omega)⟩
theorem grown_then {x y z : World} {R : Option Nat} {row : Option Nat} (h : x.grownBy y R) (k : y.grownBy z row) (hr : ∀ j, row = some j → x.heap.size ≤ j) : x.grownBy z R :=
  ⟨k.os.trans h.os, k.tape.trans h.tape, k.output.trans h.output, Nat.le_trans h.size k.size, fun i hi hn => (k.block i (Nat.lt_of_lt_of_le hi h.size) (fun e => by have := hr i e.symm; omega)).trans (h.block i hi hn)⟩
theorem own_G {G n c : Nat} {k : Nat} (h : (Value.slice (some ⟨G, 0, none⟩) n c).ownBlock = some k) : k = G := by simp [Value.ownBlock] at h; exact h.symm

end Go.Proofs.YtcabinakcmpkeaaDoor
