/-
  What a search finds, in memory of its own.
-/
import Derived.Test.YtkhnknpacdmikaaOwnO
import Derived.Test.YtkhnknpacdmikaaFindI
namespace Go.Proofs.Ytkhnknpacdmikaa
open Go.RowKit

theorem foundV_own {F : List EntD} {w w' : World} {e : Ending} (h : FoundV F w e w') : ∃ a n c, e = .returned (.slice a n c) ∧ OwnO w' w.heap.size a n c F ∧ Below w.heap.size w w' := by
  obtain ⟨h1 | ⟨g, n, c, rfl, hO⟩, hb⟩ := h
  · obtain ⟨rfl, rfl⟩ := h1
    exact ⟨none, 0, 0, rfl, OwnO.none _ _, hb⟩
  · exact ⟨_, n, c, rfl, OwnO.some hO, hb⟩

theorem found_len (L : List EntD) (m : Int) (key : ByteArray) (seq : Int) : (foundL L m key seq).length ≤ L.length := by
  unfold foundL
  split
  · exact find_len _ _ _
  · exact Nat.zero_le _
end Go.Proofs.Ytkhnknpacdmikaa
