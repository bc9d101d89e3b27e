/-
  How a list of entries that came in as an argument is opened.
-/
import Derived.Test.YtcabinakcmpkeaaDoorEnts
namespace Go.Proofs.YtcabinakcmpkeaaDoor
open Go.RowKit Go.Joins Go.ChangeShapes Go.WideShapes

set_option maxRecDepth 100000 in
theorem open_list {H : Type} {enc : TypeId × Value → H} {W : World} {b0 base : Nat} {v : Value} {d : DataW H} {p : List MemPlace} {held : Bool}
    (hv : Value.okWide Tryd.prog W .any b0 37 v) (h : DataW.Trod enc Tryd.prog W base (fun _ => true) held 37 v d p) :
    ∃ (a : Option Addr) (len cap : Nat) (L : List EntD), v = .slice a len cap ∧ EntsAt W a len cap L := by
  obtain ⟨a1, len1, cap1, rfl⟩ := okWide_slice Tryd.underlying37 hv
  obtain ⟨fuel, hf⟩ := h
  exact open_ents hf
end Go.Proofs.YtcabinakcmpkeaaDoor
