/-
  What the document's l4Put and l4Sort make of entries, by walks of their Go text.
  A block of a kind and a size, whatever it holds.
  The document's copy of levels, by a walk of its Go text.
-/
import Derived.Deep.LoopGhost
import Derived.Test.YtlmgojlffgkciaaGreatCe12
import Derived.Test.YtlmgojlffgkciaaGreatCe00
import Derived.Test.YtlmgojlffgkciaaGreatCe04
import Derived.Test.YtlmgojlffgkciaaGreatCe05
import Derived.Test.YtlmgojlffgkciaaGreatCe25
import Derived.Test.YtlmgojlffgkciaaGreatCe14
import Derived.Test.YtlmgojlffgkciaaGreatCe21
namespace Go.Proofs.YtlmgojlffgkciaaGreat
open Go.RowKit
theorem own_empty (w : World) (base : Nat) (h : base ≤ w.heap.size) : OwnE (w.alloc (.cells #[] 78)) base w.heap.size 0 0 [] := by
  have := World.ownsRow_lit (base := base) (e := 78) (size := 5) w #[] 0 (by first | exact h | simp) (by first | exact h | simp) (by first | exact h | simp)
  exact ⟨by simpa [flatE] using this, rfl, by simp⟩
theorem ents_one (w : World) (s t : ByteArray) (q d n : Int) (h : EntW (s, q, d, t, n)) : EntsAt (w.alloc (.cells #[.string s, .int .i64 q, .int .i64 d, .string t, .int .i64 n] 78)) (some ⟨w.heap.size, 0, none⟩) 1 1 [(s, q, d, t, n)] := by
  refine ⟨rfl, Nat.le_refl _, by unfold maxLen; omega, fun l hl => by simp only [List.mem_singleton] at hl; subst hl; exact h, (fun e => by cases e), (fun x e _ => by cases e; exact ⟨by simp, rfl⟩), ?_⟩
  rintro x e i hi
  cases e
  have : i = 0 := by simp at hi; omega
  subst this
  exact ⟨by simp, by simp, by simp, by simp, by simp⟩
theorem ents_news {w : World} {b n c : Nat} {L : List EntD} (h : EntsAt w (some ⟨b, 0, none⟩) n c L) : ∀ j u, (flatE L)[j]? = some u → w.cell? ((⟨b, 0, none⟩ : Addr).add j) = some u := by
  intro j u hj
  have hlt : j < (flatE L).length := (List.getElem?_eq_some_iff.1 hj).1
  rw [flatE_len] at hlt
  have hi : j / 5 < L.length := by omega
  obtain ⟨c0, c1, c2, c3, c4⟩ := h.cells _ rfl (j / 5) hi
  obtain ⟨r0, r1, r2, r3, r4⟩ := flatE_has L (j / 5) L[j / 5] (List.getElem?_eq_getElem hi)
  rw [Go.WideShapes.add_plain, Nat.zero_add]
  simp only [Nat.zero_add] at c0 c1 c2 c3 c4
  have : j = j / 5 * 5 ∨ j = j / 5 * 5 + 1 ∨ j = j / 5 * 5 + 2 ∨ j = j / 5 * 5 + 3 ∨ j = j / 5 * 5 + 4 := by omega
  rcases this with e | e | e | e | e
  · rw [← e] at r0 c0; rw [r0] at hj; cases hj; exact c0
  · rw [← e] at r1 c1; rw [r1] at hj; cases hj; exact c1
  · rw [← e] at r2 c2; rw [r2] at hj; cases hj; exact c2
  · rw [← e] at r3 c3; rw [r3] at hj; cases hj; exact c3
  · rw [← e] at r4 c4; rw [r4] at hj; cases hj; exact c4
theorem drop_news {w : World} {b n c : Nat} {L : List EntD} (h : EntsAt w (some ⟨b, 0, none⟩) n c L) (k : Nat) : ∀ j u, (flatE (L.drop k))[j]? = some u → w.cell? ((⟨b, k * 5, none⟩ : Addr).add j) = some u := by
  intro j u hj
  have hf : flatE L = flatE (L.take k) ++ flatE (L.drop k) := by rw [← flatE_append, List.take_append_drop]
  by_cases hk : k ≤ L.length
  · have h1 : (flatE L)[k * 5 + j]? = some u := by
      rw [hf, List.getElem?_append_right (by rw [flatE_len, List.length_take]; omega), flatE_len, List.length_take, Nat.min_eq_left hk, Nat.add_sub_cancel_left]
      exact hj
    have h2 := ents_news h _ u h1
    rw [Go.WideShapes.add_plain, Nat.zero_add] at h2
    rw [Go.WideShapes.add_plain]
    exact h2
  · rw [List.drop_of_length_le (by omega)] at hj
    simp [flatE] at hj
theorem row_some {w : World} {base e size n : Nat} {v : Value} {xs : List Value} {g0 : Addr} {n0 c0 m : Nat} (h : w.ownsRow base e size v n xs) (hn : v = .slice none 0 0 ↔ Value.slice (some g0) n0 c0 = .slice none 0 0 ∧ m = 0) : ∃ g c, v = .slice (some ⟨g, 0, none⟩) n c :=
  row_form h (fun e => by cases (hn.1 e).1)
end Go.Proofs.YtlmgojlffgkciaaGreat

namespace Go.Proofs.YtlmgojlffgkciaaGreat
open Go.RowKit
def BlockOf (w : World) (g t sz : Nat) : Prop := ∃ cur : Array Value, w.heap[g]? = some (.cells cur t (0, 0)) ∧ cur.size = sz
theorem BlockOf.lt {w : World} {g t sz : Nat} (h : BlockOf w g t sz) : g < w.heap.size := by
  obtain ⟨cur, h, _⟩ := h
  exact (Array.getElem?_eq_some_iff.1 h).1
theorem BlockOf.frozen {w : World} {g t sz : Nat} (h : BlockOf w g t sz) (o : Nat) : w.frozen? ⟨g, o, none⟩ = false := by
  obtain ⟨cur, h, hs⟩ := h
  simp [World.frozen?, h]
theorem BlockOf.setCell {w : World} {g t sz : Nat} (h : BlockOf w g t sz) {b o : Nat} (v : Value) (_ : True := trivial) : BlockOf (w.setCell ⟨b, o, none⟩ v) g t sz := by
  obtain ⟨cur, h, hs⟩ := h
  by_cases e : g = b
  · subst e
    exact ⟨_, heap_setCell_same w g o cur t v h, by simp [hs]⟩
  · exact ⟨cur, (Below.heap_setCell _ _ _ _ e).trans h, hs⟩
theorem BlockOf.below {w w' : World} {g t sz : Nat} (h : BlockOf w g t sz) (hb : Below w.heap.size w w') : BlockOf w' g t sz := by
  obtain ⟨cur, h', hs⟩ := h
  exact ⟨cur, (hb.block g (Array.getElem?_eq_some_iff.1 h').1).trans h', hs⟩
theorem blockOf_row {w : World} {base e size n g cap : Nat} {xs : List Value} (h : w.ownsRow base e size (.slice (some ⟨g, 0, none⟩) n cap) n xs) : BlockOf w g e (cap * size) := by
  rcases h.2 with ⟨h', _⟩ | ⟨g', cap', cur, h', _, hg, _, _, hs, _⟩
  · simp at h'
  · simp only [Value.slice.injEq, Option.some.injEq, Addr.mk.injEq, and_true, true_and] at h'
    obtain ⟨rfl, rfl⟩ := h'
    exact ⟨cur, hg, hs⟩
theorem BlockOf.kind {w : World} {g t t' sz sz' : Nat} (h : BlockOf w g t sz) (h' : BlockOf w g t' sz') : t = t' := by
  obtain ⟨cur, h1, _⟩ := h
  obtain ⟨cur', h2, _⟩ := h'
  rw [h1] at h2
  cases h2
  rfl
end Go.Proofs.YtlmgojlffgkciaaGreat

namespace Go.Proofs.YtlmgojlffgkciaaGreat
open Go.RowKit
theorem cell_two_new' (w : World) (x y : Value) (t : TypeId) : ∀ j u, [x, y][j]? = some u → (w.alloc (.cells #[x, y] t)).cell? ((⟨w.heap.size, 0, none⟩ : Addr).add j) = some u := by
  intro j u hj
  rw [Go.WideShapes.add_plain, Nat.zero_add]
  match j, hj with
  | 0, hj => simp at hj; subst hj; simp
  | 1, hj => simp at hj; subst hj; simp
theorem cell_one_new' (w : World) (x : Value) (t : TypeId) : ∀ j u, [x][j]? = some u → (w.alloc (.cells #[x] t)).cell? ((⟨w.heap.size, 0, none⟩ : Addr).add j) = some u := by
  intro j u hj
  rw [Go.WideShapes.add_plain, Nat.zero_add]
  match j, hj with
  | 0, hj => simp at hj; subst hj; simp
end Go.Proofs.YtlmgojlffgkciaaGreat
