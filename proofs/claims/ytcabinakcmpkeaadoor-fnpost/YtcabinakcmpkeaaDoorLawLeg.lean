/-
  The laws' own helpers over one leg (its size, its copy), by walks of their Go text; and how a leg that came in is opened.
-/
import Derived.Test.YtcabinakcmpkeaaDoorProg
import Derived.Test.YtcabinakcmpkeaaDoorPlain
import Derived.Test.YtcabinakcmpkeaaDoorLeg
import Derived.WalkKit
import Derived.WalkSpells
import Derived.WalkLawsBesides
import Derived.ProofKit
import Derived.Lib.SmallJoins
namespace Go.Proofs.YtcabinakcmpkeaaDoor
open Go.RowKit Go.Joins Go.ChangeShapes Go.WideShapes

theorem Tryd.cellsLegL : Tryd.prog.cellsOf 101 = 3 := by kernel_rfl

/-- A leg that the program's int kinds can hold. -/
def LegW (l : LegD) : Prop := l.1.size ≤ maxLen ∧ (Lit.int .i64 l.2.1).wf = true ∧ (Lit.int .i64 l.2.2).wf = true

set_option maxRecDepth 100000 in
theorem open_leg {H : Type} {enc : TypeId × Value → H} {W : World} {b0 base : Nat} {spare : Nat → Bool} {held : Bool} {v : Value} {d : DataW H} {p : List MemPlace}
    (hv : Value.okWide Tryd.prog W .any b0 101 v) (h : DataW.Trod enc Tryd.prog W base spare held 101 v d p) :
    ∃ l : LegD, v = .agg #[.string l.1, .int .i64 l.2.1, .int .i64 l.2.2] ∧ LegW l := by
  obtain ⟨c0, c1, c2, y0, y1, y2, m, rfl, _, _, hy0, hy1, hy2⟩ := open_agg3 Tryd.underlying101 (by kernel_rfl) Tryd.cellsLegL hv h
  obtain ⟨s, e0, _, ws⟩ := DataW.trod_string Tryd.underlying9 hy0
  obtain ⟨c, e1, _, wc⟩ := DataW.trod_int Tryd.underlying3 hy1
  obtain ⟨n, e2, _, wn⟩ := DataW.trod_int Tryd.underlying3 hy2
  simp at e0 e1 e2
  subst e0 e1 e2
  exact ⟨(s, c, n), rfl, ws, wc, wn⟩

set_option maxHeartbeats 400000 in
theorem szLeg_no (s : ByteArray) (c n left : Int) (w : World) (hs : s.size ≤ maxLen) (h0 : 0 ≤ left) (h1 : left ≤ 1048576) (h : left < s.size) :
    Calls Tryd.prog 72 #[.agg #[.string s, .int .i64 c, .int .i64 n], .int .i64 left] w fun e w' => e = .returned (.int .i64 (-1)) ∧ Below w.heap.size w w' := by
  unfold maxLen at hs
  go_enter Tryd.func72, Tryd.ntmps72
  go_wp2
  go_ret
  exact ⟨rfl, (Below.refl _ _).alloc (Nat.le_refl _) _⟩

set_option maxHeartbeats 400000 in
theorem szLeg_yes (s : ByteArray) (c n left : Int) (w : World) (h0 : 0 ≤ left) (h1 : left ≤ 1048576) (h : (s.size : Int) ≤ left) :
    Calls Tryd.prog 72 #[.agg #[.string s, .int .i64 c, .int .i64 n], .int .i64 left] w fun e w' => e = .returned (.int .i64 (left - s.size)) ∧ Below w.heap.size w w' := by
  go_enter Tryd.func72, Tryd.ntmps72
  go_wp2
  go_ret
  exact ⟨rfl, (Below.refl _ _).alloc (Nat.le_refl _) _⟩

set_option maxHeartbeats 400000 in
theorem toLeg_any (s : ByteArray) (c n : Int) (w : World) :
    Calls Tryd.prog 73 #[.agg #[.string s, .int .i64 c, .int .i64 n]] w fun e w' => e = .returned (.agg #[.string s, .int .i64 c, .int .i64 n]) ∧ Below w.heap.size w w' := by
  go_enter Tryd.func73, Tryd.ntmps73
  go_wp2
  refine bodyPost_ret (v := .agg #[.string s, .int .i64 c, .int .i64 n]) (by simp [results, Tryd.results73, go_sem]) rfl ⟨rfl, ?_⟩
  exact (((Below.refl _ _).alloc (Nat.le_refl _) _).alloc (by simp) _).alloc (by simp; omega) _

end Go.Proofs.YtcabinakcmpkeaaDoor
