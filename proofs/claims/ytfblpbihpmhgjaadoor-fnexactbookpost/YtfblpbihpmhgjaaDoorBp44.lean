/-
  A block of a kind and a size, whatever it holds.
-/
import Derived.Test.YtfblpbihpmhgjaaDoorBp39
namespace Go.Proofs.YtfblpbihpmhgjaaDoor
open Go.RowKit

/-- Block g has cells of a kind, so many; nothing is said of what they hold. -/
def BlockOf (w : World) (g t sz : Nat) : Prop := ∃ cur : Array Value, w.heap[g]? = some (.cells cur t (0, 0)) ∧ cur.size = sz
theorem BlockOf.lt {w : World} {g t sz : Nat} (h : BlockOf w g t sz) : g < w.heap.size := by
  obtain ⟨cur, h, _⟩ := h
  exact (Array.getElem?_eq_some_iff.1 h).1
theorem BlockOf.cell {w : World} {g t sz : Nat} (h : BlockOf w g t sz) {o : Nat} (ho : o < sz) : ∃ v, w.cell? ⟨g, o, none⟩ = some v := by
  obtain ⟨cur, h, hs⟩ := h
  exact ⟨cur[o]'(by omega), by simp [World.cell?, h, Array.getElem?_eq_getElem (show o < cur.size by omega)]⟩
theorem BlockOf.frozen {w : World} {g t sz : Nat} (h : BlockOf w g t sz) (o : Nat) : w.frozen? ⟨g, o, none⟩ = false := by
  obtain ⟨cur, h, hs⟩ := h
  simp [World.frozen?, h]
theorem BlockOf.setCell {w : World} {g t sz : Nat} (h : BlockOf w g t sz) {b o : Nat} (v : Value) (_ : True := trivial) : BlockOf (w.setCell ⟨b, o, none⟩ v) g t sz := by
  obtain ⟨cur, h, hs⟩ := h
  by_cases e : g = b
  · subst e
    exact ⟨_, heap_setCell_same w g o cur t v h, by simp [hs]⟩
  · exact ⟨cur, (Below.heap_setCell _ _ _ _ e).trans h, hs⟩
theorem BlockOf.below {w w' : World} {g t sz : Nat} (h : BlockOf w g t sz) (hb : Below w.heap.size w w') : BlockOf w' g t sz := by
  obtain ⟨cur, h', hs⟩ := h
  exact ⟨cur, (hb.block g (Array.getElem?_eq_some_iff.1 h').1).trans h', hs⟩
theorem blockOf_row {w : World} {base e size n g cap : Nat} {xs : List Value} (h : w.ownsRow base e size (.slice (some ⟨g, 0, none⟩) n cap) n xs) : BlockOf w g e (cap * size) := by
  rcases h.2 with ⟨h', _⟩ | ⟨g', cap', cur, h', _, hg, _, _, hs, _⟩
  · simp at h'
  · simp only [Value.slice.injEq, Option.some.injEq, Addr.mk.injEq, and_true, true_and] at h'
    obtain ⟨rfl, rfl⟩ := h'
    exact ⟨cur, hg, hs⟩
theorem BlockOf.kind {w : World} {g t t' sz sz' : Nat} (h : BlockOf w g t sz) (h' : BlockOf w g t' sz') : t = t' := by
  obtain ⟨cur, h1, _⟩ := h
  obtain ⟨cur', h2, _⟩ := h'
  rw [h1] at h2
  cases h2
  rfl
end Go.Proofs.YtfblpbihpmhgjaaDoor
