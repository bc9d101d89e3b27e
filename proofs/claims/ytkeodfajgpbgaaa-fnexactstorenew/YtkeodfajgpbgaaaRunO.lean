/-
  How a run that came in is opened.
-/
import Derived.Test.YtkeodfajgpbgaaaEnts
namespace Go.Proofs.Ytkeodfajgpbgaaa
open Go.RowKit Go.Joins Go.ChangeShapes Go.WideShapes

theorem Try.cellsRunL : Try.prog.cellsOf 243 = 2 := by kernel_rfl
set_option maxRecDepth 100000 in
/-- A run that came in. -/
theorem open_run {H : Type} {enc : TypeId × Value → H} {W : World} {b0 base : Nat} {v : Value} {d : DataW H} {p : List MemPlace} {held : Bool}
    (hv : Value.okWide Try.prog W .any b0 243 v) (h : DataW.Trod enc Try.prog W base (fun _ => true) held 243 v d p) :
    ∃ (a : Option Addr) (len cap : Nat) (L : List EntD) (m : Int), v = .agg #[.slice a len cap, .int .i64 m] ∧ ((Lit.int .i64 m).wf = true ∧ EntsAt W a len cap L) := by
  obtain ⟨c0, c1, y0, y1, m, rfl, _, _, hy0, hy1⟩ := open_agg2 Try.underlying243 (by kernel_rfl) Try.cellsRunL hv h
  obtain ⟨m, e0, _, wid⟩ := DataW.trod_int Try.underlying3 hy1
  simp at e0
  subst e0
  obtain ⟨a, len, cap, L, rfl, hL⟩ := open_ents hy0
  exact ⟨a, len, cap, L, m, rfl, wid, hL⟩

end Go.Proofs.Ytkeodfajgpbgaaa
