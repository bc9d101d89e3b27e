/-
  Rows of entries in memory of the call's own, as the library's stable sort writes into them: two entries exchanged, a stretch put in order.
  The library's exchange of two stretches of a row, and its turning round of two neighbouring stretches, by walks of their Go text.
-/
import Derived.Deep.RegionLaw
import Derived.Deep.RegionHeld3
import Derived.Ground.SlsfProg
import Derived.Shelf.SlSortCmp.InsertionK
import Derived.Test.YtlmgojlffgkciaaGreatGaXSortK
import Derived.Test.YtlmgojlffgkciaaGreatProg
import Derived.Test.YtlmgojlffgkciaaGreatGaXCellS
import Derived.Test.YtlmgojlffgkciaaGreatGa05
import Derived.Test.YtlmgojlffgkciaaGreatGaXStabP
import Derived.Test.YtlmgojlffgkciaaGreatGa18
namespace Go.Proofs.YtlmgojlffgkciaaGreat
open Go.RowKit Go.Sort
theorem OwnE.block {w : World} {base g n c : Nat} {L : List EntD} (h : OwnE w base g n c L) : ∃ cur, w.heap[g]? = some (.cells cur 78 (0, 0)) ∧ cur.size = c * 5 := by
  rcases h.owns.2 with ⟨hv, _⟩ | ⟨g', cap, cur, hv, _, h2, _, _, h5, _⟩
  · cases hv
  · cases hv
    exact ⟨cur, h2, h5⟩
end Go.Proofs.YtlmgojlffgkciaaGreat
namespace Go.Proofs.YtlmgojlffgkciaaGreat
open Go.RowKit
attribute [local go_sem] Oper.semAt_some
theorem OwnE.at5 {w : World} {base g n c i : Nat} {L : List EntD} {s t : ByteArray} {q d nn : Int} (h : OwnE w base g n c L) (hx : L[i]? = some (s, q, d, t, nn)) : w.cell? ⟨g, i * 5, none⟩ = some (.string s) ∧ w.cell? ⟨g, i * 5 + 1, none⟩ = some (.int .i64 q) ∧ w.cell? ⟨g, i * 5 + 2, none⟩ = some (.int .i64 d) ∧ w.cell? ⟨g, i * 5 + 3, none⟩ = some (.string t) ∧ w.cell? ⟨g, i * 5 + 4, none⟩ = some (.int .i64 nn) := by
  obtain ⟨hi, he⟩ := List.getElem?_eq_some_iff.1 hx
  obtain ⟨c0, c1, c2, c3, c4⟩ := h.entsAt.cells _ rfl i hi
  rw [he] at c0 c1 c2 c3 c4
  simp only [Nat.zero_add] at c0 c1 c2 c3 c4
  exact ⟨c0, c1, c2, c3, c4⟩
end Go.Proofs.YtlmgojlffgkciaaGreat
