/-
  Bytes that came in: how they lie.
-/
import Derived.Test.YthhiahjafhkbbaaDraw2
namespace Go.Proofs.Ythhiahjafhkbbaa
open Go.RowKit

/-- The bytes that came in. -/
def BytesAt (w : World) (a : Option Addr) (len cap : Nat) : Prop := len ≤ cap ∧ cap ≤ maxLen ∧ (len = 0 ∨ ∃ b off, a = some ⟨b, off, none⟩ ∧ b < w.heap.size ∧ ∀ i, i < len → ∃ z : Nat, z ≤ 255 ∧ w.cell? ⟨b, off + i, none⟩ = some (.int .u8 z))

theorem BytesAt.keep {w w' : World} {a : Option Addr} {len cap : Nat} (h : BytesAt w a len cap) (hb : Below w.heap.size w w') : BytesAt w' a len cap := by
  obtain ⟨h1, h2, h3⟩ := h
  refine ⟨h1, h2, ?_⟩
  rcases h3 with e | ⟨b, off, ha, hlt, hc⟩
  · exact Or.inl e
  · exact Or.inr ⟨b, off, ha, Nat.lt_of_lt_of_le hlt hb.size, fun i hi => by obtain ⟨z, hz, hcc⟩ := hc i hi; exact ⟨z, hz, cell_later hb hcc⟩⟩

end Go.Proofs.Ythhiahjafhkbbaa
