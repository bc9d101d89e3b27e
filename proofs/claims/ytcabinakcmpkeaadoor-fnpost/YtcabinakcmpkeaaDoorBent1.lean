/-
  A box of two cells with its type: it is none of the rows of legs.
-/
import Derived.Test.YtcabinakcmpkeaaDoorDrawPost
namespace Go.Proofs.YtcabinakcmpkeaaDoor
open Go.RowKit

/-- Block b is a posting's box. -/
def BoxH (w : World) (b : Nat) (u v : Value) : Prop := w.heap[b]? = some (.cells #[u, v] 29 (0, 0))

theorem BoxH.lt {w : World} {b : Nat} {u v : Value} (h : BoxH w b u v) : b < w.heap.size := (Array.getElem?_eq_some_iff.1 h).1
theorem BoxH.box {w : World} {b : Nat} {u v : Value} (h : BoxH w b u v) : Box2 w b u v := by
  have h' : w.heap[b]? = some (.cells #[u, v] 29 (0, 0)) := h
  exact ⟨by simp [World.cell?, h'], by simp [World.cell?, h'], by simp [World.frozen?, h'], by simp [World.frozen?, h']⟩
theorem BoxH.new (w : World) (u v : Value) : BoxH (w.alloc (.cells #[u, v] 29)) w.heap.size u v := heap_alloc_new w _
theorem BoxH.grown {w w' : World} {b : Nat} {u v : Value} {row : Option Nat} (h : BoxH w b u v) (hg : w.grownBy w' row) (hne : some b ≠ row) : BoxH w' b u v := (hg.block b h.lt hne).trans h
theorem BoxH.gR {w w' : World} {b R : Nat} {u v : Value} (h : BoxH w b u v) (hg : w.grownBy w' (some R)) (hR : R < b) : BoxH w' b u v := h.grown hg (fun e => by cases e; omega)
theorem BoxH.below {w w' : World} {b : Nat} {u v : Value} (h : BoxH w b u v) (hb : Below w.heap.size w w') : BoxH w' b u v := h.grown (grown_below (R := none) hb) (by simp)
theorem BoxH.alloc {w : World} {b : Nat} {u v : Value} (h : BoxH w b u v) (o : Obj) : BoxH (w.alloc o) b u v := h.below ((Below.refl _ _).alloc (Nat.le_refl _) _)
theorem grown_set (w : World) (p : Addr) (x : Value) : w.grownBy (w.setCell p x) (some p.block) :=
  ⟨rfl, rfl, rfl, by simp [World.setCell], fun k _ hk => Below.heap_setCell _ _ _ _ (fun e => hk (by rw [e]))⟩
theorem BoxH.other {w : World} {b : Nat} {u v : Value} (h : BoxH w b u v) {p : Addr} (hp : p.block ≠ b) (x : Value) : BoxH (w.setCell p x) b u v := h.grown (grown_set w p x) (fun e => hp (by cases e; rfl))
theorem BoxH.set1 {w : World} {b : Nat} {u v : Value} (h : BoxH w b u v) (x : Value) : BoxH (w.setCell ⟨b, 1, none⟩ x) b u x := by
  have := heap_setCell_same w b 1 #[u, v] 29 x h
  simpa [BoxH] using this
theorem BoxH.set0 {w : World} {b : Nat} {u v : Value} (h : BoxH w b u v) (x : Value) : BoxH (w.setCell ⟨b, 0, none⟩ x) b x v := by
  have := heap_setCell_same w b 0 #[u, v] 29 x h
  simpa [BoxH] using this
theorem BoxH.ne_row {w : World} {b : Nat} {u v : Value} (h : BoxH w b u v) {base g n c : Nat} {L : List LegD} (D : DrawnAt w base g n c L) : b ≠ g := by
  rintro rfl
  rcases D.owns.2 with ⟨h', _⟩ | ⟨g', cap', cur, h', _, hg, _⟩
  · simp at h'
  · simp only [Value.slice.injEq, Option.some.injEq, Addr.mk.injEq, and_true, true_and] at h'
    obtain ⟨rfl, rfl⟩ := h'
    have h2 : w.heap[b]? = some (.cells #[u, v] 29 (0, 0)) := h
    rw [hg] at h2
    simp at h2

/-- A leg of the row, read and written. -/
theorem DrawnAt.leg {w : World} {base g n c : Nat} {L : List LegD} (D : DrawnAt w base g n c L) {k : Nat} (hk : k < n) : ∃ l, L[k]? = some l ∧ LegW l ∧ w.cell? ⟨g, k * 3, none⟩ = some (.string l.1) ∧ w.cell? ⟨g, k * 3 + 1, none⟩ = some (.int .i64 l.2.1) ∧ w.cell? ⟨g, k * 3 + 2, none⟩ = some (.int .i64 l.2.2) ∧ ∀ o, w.frozen? ⟨g, o, none⟩ = false := by
  have hl : k < L.length := by rw [D.len]; exact hk
  have hs : L[k]? = some L[k] := List.getElem?_eq_getElem hl
  obtain ⟨h0, h1, h2⟩ := flat_has L k L[k] hs
  exact ⟨L[k], hs, D.legs _ (List.getElem_mem hl), (D.owns.cellAt _ (by omega)).trans h0, (D.owns.cellAt _ (by omega)).trans h1, (D.owns.cellAt _ (by omega)).trans h2, fun o => D.owns.frozenAt o⟩
theorem mem_set {L : List LegD} {k : Nat} {x l : LegD} (h : l ∈ L.set k x) : l ∈ L ∨ l = x := by
  rcases List.mem_or_eq_of_mem_set h with h | h
  · exact Or.inl h
  · exact Or.inr h
theorem DrawnAt.setN {w : World} {base g n c : Nat} {L : List LegD} (D : DrawnAt w base g n c L) {k : Nat} {l : LegD} (hk : L[k]? = some l) (z : Int) (hz : (Lit.int .i64 z).wf = true) : DrawnAt (w.setCell ⟨g, k * 3 + 2, none⟩ (.int .i64 z)) base g n c (L.set k (l.1, l.2.1, z)) := by
  have hw := D.legs l (List.mem_of_getElem? hk)
  refine ⟨?_, by rw [List.length_set]; exact D.len, fun x hx => ?_, fun x hx => ?_⟩
  · rw [← (flat_set L k l hk l.1 l.2.1 z).2.2]; exact (D.owns.stored _ _).1
  · rcases mem_set hx with h | rfl
    · exact D.legs x h
    · exact ⟨hw.1, hw.2.1, hz⟩
  · rcases mem_set hx with h | rfl
    · exact D.accts x h
    · exact D.accts l (List.mem_of_getElem? hk)
theorem DrawnAt.setC {w : World} {base g n c : Nat} {L : List LegD} (D : DrawnAt w base g n c L) {k : Nat} {l : LegD} (hk : L[k]? = some l) (z : Int) (hz : (Lit.int .i64 z).wf = true) : DrawnAt (w.setCell ⟨g, k * 3 + 1, none⟩ (.int .i64 z)) base g n c (L.set k (l.1, z, l.2.2)) := by
  have hw := D.legs l (List.mem_of_getElem? hk)
  refine ⟨?_, by rw [List.length_set]; exact D.len, fun x hx => ?_, fun x hx => ?_⟩
  · rw [← (flat_set L k l hk l.1 z l.2.2).2.1]; exact (D.owns.stored _ _).1
  · rcases mem_set hx with h | rfl
    · exact D.legs x h
    · exact ⟨hw.1, hz, hw.2.2⟩
  · rcases mem_set hx with h | rfl
    · exact D.accts x h
    · exact D.accts l (List.mem_of_getElem? hk)
theorem DrawnAt.setS {w : World} {base g n c : Nat} {L : List LegD} (D : DrawnAt w base g n c L) {k : Nat} {l : LegD} (hk : L[k]? = some l) (s : ByteArray) (hs : FewB s) : DrawnAt (w.setCell ⟨g, k * 3, none⟩ (.string s)) base g n c (L.set k (s, l.2.1, l.2.2)) := by
  have hw := D.legs l (List.mem_of_getElem? hk)
  refine ⟨?_, by rw [List.length_set]; exact D.len, fun x hx => ?_, fun x hx => ?_⟩
  · rw [← (flat_set L k l hk s l.2.1 l.2.2).1]; exact (D.owns.stored _ _).1
  · rcases mem_set hx with h | rfl
    · exact D.legs x h
    · exact ⟨Nat.le_trans hs.1 (by unfold maxLen; omega), hw.2.1, hw.2.2⟩
  · rcases mem_set hx with h | rfl
    · exact D.accts x h
    · exact hs

end Go.Proofs.YtcabinakcmpkeaaDoor
