/-
  A box of five cells, and what it keeps; no statement of the program stands here.
  A box of three cells, and what it keeps; no statement of the program stands here.
  The laws' own helpers over one entry (size, copy), by walks of their Go text; and how an entry that came in is opened.
-/
import Derived.Test.YtfblpbihpmhgjaaDoorFm09
import Derived.Test.YtfblpbihpmhgjaaDoorProg
import Derived.Test.YtfblpbihpmhgjaaDoorFm00
import Derived.Test.YtfblpbihpmhgjaaDoorFm03
import Derived.Test.YtfblpbihpmhgjaaDoorFm04
import Derived.WalkKit
import Derived.WalkSpells
import Derived.WalkLawsBesides
import Derived.ProofKit
import Derived.Lib.SmallJoins
namespace Go.Proofs.YtfblpbihpmhgjaaDoor
open Go.RowKit

/-- Five cells in block X. -/
structure Box5 (w : World) (X : Nat) (v0 v1 v2 v3 v4 : Value) : Prop where
  c0 : w.cell? ⟨X, 0, none⟩ = some v0
  c1 : w.cell? ⟨X, 1, none⟩ = some v1
  c2 : w.cell? ⟨X, 2, none⟩ = some v2
  c3 : w.cell? ⟨X, 3, none⟩ = some v3
  c4 : w.cell? ⟨X, 4, none⟩ = some v4
  fr : ∀ o, w.frozen? ⟨X, o, none⟩ = false
theorem Box5.lt {w : World} {X : Nat} {v0 v1 v2 v3 v4 : Value} (h : Box5 w X v0 v1 v2 v3 v4) : X < w.heap.size := World.block_lt_of_cell? _ _ h.c0
theorem Box5.new (w : World) (T : TypeId) (v0 v1 v2 v3 v4 : Value) : Box5 (w.alloc (.cells #[v0, v1, v2, v3, v4] T)) w.heap.size v0 v1 v2 v3 v4 :=
  ⟨by simp, by simp, by simp, by simp, by simp, fun o => World.frozen?_alloc_new w _ _ o⟩
theorem Box5.newD (w : World) (T : TypeId) (v0 v1 v2 v3 v4 : Value) : Box5 (w.alloc (.cells #[v0, v1, v2, v3, v4] T)).drew w.heap.size v0 v1 v2 v3 v4 :=
  let h := Box5.new w T v0 v1 v2 v3 v4
  ⟨h.c0, h.c1, h.c2, h.c3, h.c4, h.fr⟩
theorem Box5.below {w w' : World} {X : Nat} {v0 v1 v2 v3 v4 : Value} (h : Box5 w X v0 v1 v2 v3 v4) (hb : Below w.heap.size w w') : Box5 w' X v0 v1 v2 v3 v4 :=
  ⟨cell_later hb h.c0, cell_later hb h.c1, cell_later hb h.c2, cell_later hb h.c3, cell_later hb h.c4, fun o => (hb.frozen (p := ⟨X, o, none⟩) h.lt).trans (h.fr o)⟩
theorem Box5.alloc {w : World} {X : Nat} {v0 v1 v2 v3 v4 : Value} (h : Box5 w X v0 v1 v2 v3 v4) (o : Obj) : Box5 (w.alloc o) X v0 v1 v2 v3 v4 := h.below ((Below.refl _ _).alloc (Nat.le_refl _) _)
theorem Box5.grown {w w' : World} {X R : Nat} {v0 v1 v2 v3 v4 : Value} (h : Box5 w X v0 v1 v2 v3 v4) (hg : w.grownBy w' (some R)) (hn : X ≠ R) : Box5 w' X v0 v1 v2 v3 v4 :=
  ⟨(grown_cell hg (x := ⟨X, 0, none⟩) h.lt hn).trans h.c0, (grown_cell hg (x := ⟨X, 1, none⟩) h.lt hn).trans h.c1, (grown_cell hg (x := ⟨X, 2, none⟩) h.lt hn).trans h.c2, (grown_cell hg (x := ⟨X, 3, none⟩) h.lt hn).trans h.c3, (grown_cell hg (x := ⟨X, 4, none⟩) h.lt hn).trans h.c4, fun o => (World.frozen?_of_block (hg.block X h.lt (fun e => hn (by cases e; rfl)))).trans (h.fr o)⟩
theorem Box5.other {w : World} {X Y : Nat} {v0 v1 v2 v3 v4 : Value} (h : Box5 w X v0 v1 v2 v3 v4) (hn : X ≠ Y) (o : Nat) (v : Value) : Box5 (w.setCell ⟨Y, o, none⟩ v) X v0 v1 v2 v3 v4 := by
  have ne : ∀ i, (⟨Y, o, none⟩ : Addr) ≠ ⟨X, i, none⟩ := fun i e => hn (congrArg Addr.block e).symm
  exact ⟨by rw [World.cell?_setCell_other _ _ _ _ (ne 0)]; exact h.c0, by rw [World.cell?_setCell_other _ _ _ _ (ne 1)]; exact h.c1, by rw [World.cell?_setCell_other _ _ _ _ (ne 2)]; exact h.c2, by rw [World.cell?_setCell_other _ _ _ _ (ne 3)]; exact h.c3, by rw [World.cell?_setCell_other _ _ _ _ (ne 4)]; exact h.c4, fun o' => by rw [World.frozen?_setCell]; exact h.fr o'⟩
theorem Box5.set0 {w : World} {X : Nat} {v0 v1 v2 v3 v4 : Value} (h : Box5 w X v0 v1 v2 v3 v4) (v : Value) : Box5 (w.setCell ⟨X, 0, none⟩ v) X v v1 v2 v3 v4 := by
  refine ⟨World.cell?_setCell_same' _ _ _ (by rw [h.c0]; rfl), ?_, ?_, ?_, ?_, fun o' => by rw [World.frozen?_setCell]; exact h.fr o'⟩
  · rw [World.cell?_setCell_other _ _ _ _ (by simp)]; exact h.c1
  · rw [World.cell?_setCell_other _ _ _ _ (by simp)]; exact h.c2
  · rw [World.cell?_setCell_other _ _ _ _ (by simp)]; exact h.c3
  · rw [World.cell?_setCell_other _ _ _ _ (by simp)]; exact h.c4
theorem Box5.set1 {w : World} {X : Nat} {v0 v1 v2 v3 v4 : Value} (h : Box5 w X v0 v1 v2 v3 v4) (v : Value) : Box5 (w.setCell ⟨X, 1, none⟩ v) X v0 v v2 v3 v4 := by
  refine ⟨?_, World.cell?_setCell_same' _ _ _ (by rw [h.c1]; rfl), ?_, ?_, ?_, fun o' => by rw [World.frozen?_setCell]; exact h.fr o'⟩
  · rw [World.cell?_setCell_other _ _ _ _ (by simp)]; exact h.c0
  · rw [World.cell?_setCell_other _ _ _ _ (by simp)]; exact h.c2
  · rw [World.cell?_setCell_other _ _ _ _ (by simp)]; exact h.c3
  · rw [World.cell?_setCell_other _ _ _ _ (by simp)]; exact h.c4
theorem Box5.set2 {w : World} {X : Nat} {v0 v1 v2 v3 v4 : Value} (h : Box5 w X v0 v1 v2 v3 v4) (v : Value) : Box5 (w.setCell ⟨X, 2, none⟩ v) X v0 v1 v v3 v4 := by
  refine ⟨?_, ?_, World.cell?_setCell_same' _ _ _ (by rw [h.c2]; rfl), ?_, ?_, fun o' => by rw [World.frozen?_setCell]; exact h.fr o'⟩
  · rw [World.cell?_setCell_other _ _ _ _ (by simp)]; exact h.c0
  · rw [World.cell?_setCell_other _ _ _ _ (by simp)]; exact h.c1
  · rw [World.cell?_setCell_other _ _ _ _ (by simp)]; exact h.c3
  · rw [World.cell?_setCell_other _ _ _ _ (by simp)]; exact h.c4
theorem Box5.set3 {w : World} {X : Nat} {v0 v1 v2 v3 v4 : Value} (h : Box5 w X v0 v1 v2 v3 v4) (v : Value) : Box5 (w.setCell ⟨X, 3, none⟩ v) X v0 v1 v2 v v4 := by
  refine ⟨?_, ?_, ?_, World.cell?_setCell_same' _ _ _ (by rw [h.c3]; rfl), ?_, fun o' => by rw [World.frozen?_setCell]; exact h.fr o'⟩
  · rw [World.cell?_setCell_other _ _ _ _ (by simp)]; exact h.c0
  · rw [World.cell?_setCell_other _ _ _ _ (by simp)]; exact h.c1
  · rw [World.cell?_setCell_other _ _ _ _ (by simp)]; exact h.c2
  · rw [World.cell?_setCell_other _ _ _ _ (by simp)]; exact h.c4
theorem Box5.set4 {w : World} {X : Nat} {v0 v1 v2 v3 v4 : Value} (h : Box5 w X v0 v1 v2 v3 v4) (v : Value) : Box5 (w.setCell ⟨X, 4, none⟩ v) X v0 v1 v2 v3 v := by
  refine ⟨?_, ?_, ?_, ?_, World.cell?_setCell_same' _ _ _ (by rw [h.c4]; rfl), fun o' => by rw [World.frozen?_setCell]; exact h.fr o'⟩
  · rw [World.cell?_setCell_other _ _ _ _ (by simp)]; exact h.c0
  · rw [World.cell?_setCell_other _ _ _ _ (by simp)]; exact h.c1
  · rw [World.cell?_setCell_other _ _ _ _ (by simp)]; exact h.c2
  · rw [World.cell?_setCell_other _ _ _ _ (by simp)]; exact h.c3
/-- All five. -/
theorem Box5.setAll {w : World} {X : Nat} {v0 v1 v2 v3 v4 : Value} (h : Box5 w X v0 v1 v2 v3 v4) (u0 u1 u2 u3 u4 : Value) : Box5 (((((w.setCell ⟨X, 0, none⟩ u0).setCell ⟨X, 1, none⟩ u1).setCell ⟨X, 2, none⟩ u2).setCell ⟨X, 3, none⟩ u3).setCell ⟨X, 4, none⟩ u4) X u0 u1 u2 u3 u4 :=
  ((((h.set0 u0).set1 u1).set2 u2).set3 u3).set4 u4

/-- The reader is kept where another block is written. -/
theorem RdAt.other {w : World} {R : Nat} {a : Option Addr} {len cap P : Nat} (h : RdAt w R a len cap P) {X : Nat} (hX : X ≠ R) (hB : ∀ b off, a = some ⟨b, off, none⟩ → 0 < len → b ≠ X) (o : Nat) (v : Value) : RdAt (w.setCell ⟨X, o, none⟩ v) R a len cap P := by
  have ne : ∀ i, (⟨X, o, none⟩ : Addr) ≠ ⟨R, i, none⟩ := fun i e => hX (congrArg Addr.block e)
  refine ⟨by rw [World.cell?_setCell_other _ _ _ _ (ne 0)]; exact h.c0, by rw [World.cell?_setCell_other _ _ _ _ (ne 1)]; exact h.c1, by rw [World.frozen?_setCell]; exact h.f1, h.few, ?_⟩
  rcases h.bytes with h0 | ⟨b, off, ha, hb1, hb2, hc⟩
  · exact Or.inl h0
  · by_cases h0 : len = 0
    · exact Or.inl h0
    · refine Or.inr ⟨b, off, ha, hb1, by simpa [World.setCell] using hb2, fun i hi => ?_⟩
      obtain ⟨z, hz, hcc⟩ := hc i hi
      exact ⟨z, hz, by rw [World.cell?_setCell_other _ _ _ _ (fun e => hB b off ha (by omega) (congrArg Addr.block e).symm)]; exact hcc⟩

end Go.Proofs.YtfblpbihpmhgjaaDoor

namespace Go.Proofs.YtfblpbihpmhgjaaDoor
open Go.RowKit

/-- Three cells in block X. -/
structure Box3 (w : World) (X : Nat) (v0 v1 v2 : Value) : Prop where
  c0 : w.cell? ⟨X, 0, none⟩ = some v0
  c1 : w.cell? ⟨X, 1, none⟩ = some v1
  c2 : w.cell? ⟨X, 2, none⟩ = some v2
  fr : ∀ o, w.frozen? ⟨X, o, none⟩ = false
theorem Box3.lt {w : World} {X : Nat} {v0 v1 v2 : Value} (h : Box3 w X v0 v1 v2) : X < w.heap.size := World.block_lt_of_cell? _ _ h.c0
theorem Box3.new (w : World) (T : TypeId) (v0 v1 v2 : Value) : Box3 (w.alloc (.cells #[v0, v1, v2] T)) w.heap.size v0 v1 v2 :=
  ⟨by simp, by simp, by simp, fun o => World.frozen?_alloc_new w _ _ o⟩
theorem Box3.below {w w' : World} {X : Nat} {v0 v1 v2 : Value} (h : Box3 w X v0 v1 v2) (hb : Below w.heap.size w w') : Box3 w' X v0 v1 v2 :=
  ⟨cell_later hb h.c0, cell_later hb h.c1, cell_later hb h.c2, fun o => (hb.frozen (p := ⟨X, o, none⟩) h.lt).trans (h.fr o)⟩
theorem Box3.alloc {w : World} {X : Nat} {v0 v1 v2 : Value} (h : Box3 w X v0 v1 v2) (o : Obj) : Box3 (w.alloc o) X v0 v1 v2 := h.below ((Below.refl _ _).alloc (Nat.le_refl _) _)
theorem Box3.grown {w w' : World} {X R : Nat} {v0 v1 v2 : Value} (h : Box3 w X v0 v1 v2) (hg : w.grownBy w' (some R)) (hn : X ≠ R) : Box3 w' X v0 v1 v2 :=
  ⟨(grown_cell hg (x := ⟨X, 0, none⟩) h.lt hn).trans h.c0, (grown_cell hg (x := ⟨X, 1, none⟩) h.lt hn).trans h.c1, (grown_cell hg (x := ⟨X, 2, none⟩) h.lt hn).trans h.c2, fun o => (World.frozen?_of_block (hg.block X h.lt (fun e => hn (by cases e; rfl)))).trans (h.fr o)⟩
theorem Box3.other {w : World} {X Y : Nat} {v0 v1 v2 : Value} (h : Box3 w X v0 v1 v2) (hn : X ≠ Y) (o : Nat) (v : Value) : Box3 (w.setCell ⟨Y, o, none⟩ v) X v0 v1 v2 := by
  have ne : ∀ i, (⟨Y, o, none⟩ : Addr) ≠ ⟨X, i, none⟩ := fun i e => hn (congrArg Addr.block e).symm
  exact ⟨by rw [World.cell?_setCell_other _ _ _ _ (ne 0)]; exact h.c0, by rw [World.cell?_setCell_other _ _ _ _ (ne 1)]; exact h.c1, by rw [World.cell?_setCell_other _ _ _ _ (ne 2)]; exact h.c2, fun o' => by rw [World.frozen?_setCell]; exact h.fr o'⟩
theorem Box3.setAll {w : World} {X : Nat} {v0 v1 v2 : Value} (h : Box3 w X v0 v1 v2) (u0 u1 u2 : Value) : Box3 (((w.setCell ⟨X, 0, none⟩ u0).setCell ⟨X, 1, none⟩ u1).setCell ⟨X, 2, none⟩ u2) X u0 u1 u2 := by
  refine ⟨?_, ?_, ?_, fun o' => by rw [World.frozen?_setCell, World.frozen?_setCell, World.frozen?_setCell]; exact h.fr o'⟩
  · rw [World.cell?_setCell_other _ _ _ _ (by simp), World.cell?_setCell_other _ _ _ _ (by simp)]
    exact World.cell?_setCell_same' _ _ _ (by rw [h.c0]; rfl)
  · rw [World.cell?_setCell_other _ _ _ _ (by simp)]
    exact World.cell?_setCell_same' _ _ _ (by rw [World.cell?_setCell_other _ _ _ _ (by simp), h.c1]; rfl)
  · exact World.cell?_setCell_same' _ _ _ (by rw [World.cell?_setCell_other _ _ _ _ (by simp), World.cell?_setCell_other _ _ _ _ (by simp), h.c2]; rfl)

end Go.Proofs.YtfblpbihpmhgjaaDoor

namespace Go.Proofs.YtfblpbihpmhgjaaDoor
open Go.RowKit Go.Joins Go.ChangeShapes Go.WideShapes Go.Deep

theorem Tryd.cellsEntL : Tryd.prog.cellsOf 83 = 5 := by kernel_rfl

theorem array5 {α : Type} {cs : Array α} (h : cs.size = 5) : ∃ c0 c1 c2 c3 c4, cs = #[c0, c1, c2, c3, c4] := by
  obtain ⟨l⟩ := cs
  match l, h with
  | [a, b, c, d, e], _ => exact ⟨a, b, c, d, e, rfl⟩

theorem open_agg5 {H : Type} {enc : TypeId × Value → H} {P : Program} {w : World} {base : Nat} {spare : Nat → Bool} {held : Bool} {r : Reach} {b0 : Nat} {t : TypeId} {f0 f1 f2 f3 f4 : Field} {v : Value} {d : DataW H} {p : List MemPlace} (hs : P.underlying t = some (.struct #[f0, f1, f2, f3, f4])) (hone : oneCellFields P #[f0, f1, f2, f3, f4] = true) (hC : P.cellsOf t = 5)
    (hv : Value.okWide P w r b0 t v) (h : DataW.Trod enc P w base spare held t v d p) :
    ∃ (v0 v1 v2 v3 v4 : Value) (y0 y1 y2 y3 y4 : DataW H × List MemPlace) (n : Nat), v = .agg #[v0, v1, v2, v3, v4] ∧
      DataW.trod enc P w base spare held n f0.type [v0] = some y0 ∧ DataW.trod enc P w base spare held n f1.type [v1] = some y1 ∧ DataW.trod enc P w base spare held n f2.type [v2] = some y2 ∧ DataW.trod enc P w base spare held n f3.type [v3] = some y3 ∧ DataW.trod enc P w base spare held n f4.type [v4] = some y4 := by
  obtain ⟨cs, rfl, hsz⟩ := okWide_struct hs hv
  obtain ⟨c0, c1, c2, c3, c4, rfl⟩ := array5 (hsz.trans hC)
  obtain ⟨fuel, hf⟩ := h
  obtain ⟨xs, n, _, _, hl, hlen, hf⟩ := DataW.trod_struct hs hf
  match xs, hlen with
  | [y0, y1, y2, y3, y4], _ =>
    have h0 := hf 0 f0 rfl
    have h1 := hf 1 f1 rfl
    have h2 := hf 2 f2 rfl
    have h3 := hf 3 f3 rfl
    have h4 := hf 4 f4 rfl
    obtain ⟨o0, k0⟩ := hone_of hone 0 f0 rfl
    obtain ⟨o1, k1⟩ := hone_of hone 1 f1 rfl
    obtain ⟨o2, k2⟩ := hone_of hone 2 f2 rfl
    obtain ⟨o3, k3⟩ := hone_of hone 3 f3 rfl
    obtain ⟨o4, k4⟩ := hone_of hone 4 f4 rfl
    exact ⟨c0, c1, c2, c3, c4, y0, y1, y2, y3, y4, n, rfl, by simpa [Value.cells, o0, k0] using h0, by simpa [Value.cells, o1, k1] using h1, by simpa [Value.cells, o2, k2] using h2, by simpa [Value.cells, o3, k3] using h3, by simpa [Value.cells, o4, k4] using h4⟩

/-- An entry that the program's int kinds can hold. -/
def EntW (e : EntD) : Prop := e.1.size ≤ maxLen ∧ (Lit.int .i64 e.2.1).wf = true ∧ (Lit.int .i64 e.2.2.1).wf = true ∧ e.2.2.2.1.size ≤ maxLen ∧ (Lit.int .i64 e.2.2.2.2).wf = true

set_option maxRecDepth 100000 in
theorem open_ent {H : Type} {enc : TypeId × Value → H} {W : World} {b0 base : Nat} {spare : Nat → Bool} {held : Bool} {v : Value} {d : DataW H} {p : List MemPlace}
    (hv : Value.okWide Tryd.prog W .any b0 83 v) (h : DataW.Trod enc Tryd.prog W base spare held 83 v d p) :
    ∃ e : EntD, v = .agg #[.string e.1, .int .i64 e.2.1, .int .i64 e.2.2.1, .string e.2.2.2.1, .int .i64 e.2.2.2.2] ∧ EntW e := by
  obtain ⟨c0, c1, c2, c3, c4, y0, y1, y2, y3, y4, m, rfl, hy0, hy1, hy2, hy3, hy4⟩ := open_agg5 Tryd.underlying83 (by kernel_rfl) Tryd.cellsEntL hv h
  obtain ⟨k, e0, _, wk⟩ := DataW.trod_string Tryd.underlying9 hy0
  obtain ⟨q, e1, _, wq⟩ := DataW.trod_int Tryd.underlying3 hy1
  obtain ⟨dd, e2, _, wd⟩ := DataW.trod_int Tryd.underlying3 hy2
  obtain ⟨t, e3, _, wt⟩ := DataW.trod_string Tryd.underlying9 hy3
  obtain ⟨n, e4, _, wn⟩ := DataW.trod_int Tryd.underlying3 hy4
  simp at e0 e1 e2 e3 e4
  subst e0 e1 e2 e3 e4
  exact ⟨(k, q, dd, t, n), rfl, wk, wq, wd, wt, wn⟩

set_option maxHeartbeats 400000 in
theorem szEnt_no (k t : ByteArray) (q d n left : Int) (w : World) (hk : k.size ≤ maxLen) (ht : t.size ≤ maxLen) (h0 : 0 ≤ left) (h1 : left ≤ 1048576) (h : left < k.size + t.size) :
    Calls Tryd.prog 58 #[.agg #[.string k, .int .i64 q, .int .i64 d, .string t, .int .i64 n], .int .i64 left] w fun e w' => e = .returned (.int .i64 (-1)) ∧ Below w.heap.size w w' := by
  unfold maxLen at hk ht
  by_cases hc : left < k.size
  · go_enter Tryd.func58, Tryd.ntmps58
    go_wp2
    go_ret
    exact ⟨rfl, (Below.refl _ _).alloc (Nat.le_refl _) _⟩
  · go_enter Tryd.func58, Tryd.ntmps58
    go_wp2
    go_ret
    exact ⟨rfl, (Below.refl _ _).alloc (Nat.le_refl _) _⟩

set_option maxHeartbeats 400000 in
theorem szEnt_yes (k t : ByteArray) (q d n left : Int) (w : World) (h1 : left ≤ 1048576) (h : (k.size : Int) + t.size ≤ left) :
    Calls Tryd.prog 58 #[.agg #[.string k, .int .i64 q, .int .i64 d, .string t, .int .i64 n], .int .i64 left] w fun e w' => e = .returned (.int .i64 (left - k.size - t.size)) ∧ Below w.heap.size w w' := by
  go_enter Tryd.func58, Tryd.ntmps58
  go_wp2
  go_ret
  exact ⟨rfl, (Below.refl _ _).alloc (Nat.le_refl _) _⟩

set_option maxHeartbeats 400000 in
theorem toEnt_any (k t : ByteArray) (q d n : Int) (w : World) :
    Calls Tryd.prog 60 #[.agg #[.string k, .int .i64 q, .int .i64 d, .string t, .int .i64 n]] w fun e w' => e = .returned (.agg #[.string k, .int .i64 q, .int .i64 d, .string t, .int .i64 n]) ∧ Below w.heap.size w w' := by
  go_enter Tryd.func60, Tryd.ntmps60
  go_wp2
  refine bodyPost_ret (v := .agg #[.string k, .int .i64 q, .int .i64 d, .string t, .int .i64 n]) (by simp [results, Tryd.results60, go_sem]) rfl ⟨rfl, ?_⟩
  exact (((Below.refl _ _).alloc (Nat.le_refl _) _).alloc (by simp) _).alloc (by simp; omega) _

end Go.Proofs.YtfblpbihpmhgjaaDoor
