/-
  What the program's and the document's LegOk answer at every leg, by walks of their Go text.
  The laws' own helpers over one leg (its size, its copy), by walks of their Go text; and how a leg that came in is opened.
-/
import Derived.Test.YtfblpbihpmhgjaaDoorProg
import Derived.Test.YtfblpbihpmhgjaaDoorBp00
import Derived.Test.YtfblpbihpmhgjaaDoorBp01
import Derived.WalkKit
import Derived.WalkSpells
import Derived.WalkLawsBesides
import Derived.ProofKit
import Derived.Lib.SmallJoins
namespace Go.Proofs.YtfblpbihpmhgjaaDoor
open Go.RowKit

theorem legB_acct {s : ByteArray} {c n : Int} (h : acctB s = false) : legB (s, c, n) = false := by simp [legB, h]
theorem legB_c1 {s : ByteArray} {c n : Int} (h : c < 1) : legB (s, c, n) = false := by
  have : decide (1 ≤ c) = false := decide_eq_false (by omega)
  simp [legB, this]
theorem legB_c3 {s : ByteArray} {c n : Int} (h : 3 < c) : legB (s, c, n) = false := by
  have : decide (c ≤ 3) = false := decide_eq_false (by omega)
  simp [legB, this]
theorem legB_n0 {s : ByteArray} {c n : Int} (h : n < -1000) : legB (s, c, n) = false := by
  have : decide (-1000 ≤ n) = false := decide_eq_false (by omega)
  simp [legB, this]
theorem legB_n1 {s : ByteArray} {c n : Int} (h : 1000 < n) : legB (s, c, n) = false := by
  have : decide (n ≤ 1000) = false := decide_eq_false (by omega)
  simp [legB, this]
theorem legB_z {s : ByteArray} {c : Int} : legB (s, c, 0) = false := by simp [legB]
theorem legB_yes {s : ByteArray} {c n : Int} (h : acctB s = true) (h1 : 1 ≤ c) (h2 : c ≤ 3) (h3 : -1000 ≤ n) (h4 : n ≤ 1000) (h5 : n ≠ 0) : legB (s, c, n) = true := by simp [legB, h, h1, h2, h3, h4, h5]

set_option maxHeartbeats 400000 in
theorem specLeg (s : ByteArray) (c n : Int) (w : World) (hs : s.size ≤ maxLen) :
    Calls Tryd.prog 74 #[.agg #[.string s, .int .i64 c, .int .i64 n]] w fun e w' => e = .returned (.bool (legB (s, c, n))) ∧ Below w.heap.size w w' := by
  cases ha : acctB s with
  | false =>
    go_enter Tryd.func74, Tryd.ntmps74
    go_wp2_with (go_at_call 110; refine (specAcct _ _ hs).mono ?_; rintro e w' ⟨rfl, rfl⟩)
    go_ret
    exact ⟨ret_bool (legB_acct ha).symm, (Below.refl _ _).alloc (Nat.le_refl _) _⟩
  | true =>
    by_cases h1 : c < 1
    · go_enter Tryd.func74, Tryd.ntmps74
      go_wp2_with (go_at_call 110; refine (specAcct _ _ hs).mono ?_; rintro e w' ⟨rfl, rfl⟩)
      go_ret
      exact ⟨ret_bool (legB_c1 h1).symm, (Below.refl _ _).alloc (Nat.le_refl _) _⟩
    by_cases h2 : 3 < c
    · go_enter Tryd.func74, Tryd.ntmps74
      go_wp2_with (go_at_call 110; refine (specAcct _ _ hs).mono ?_; rintro e w' ⟨rfl, rfl⟩)
      go_ret
      exact ⟨ret_bool (legB_c3 h2).symm, (Below.refl _ _).alloc (Nat.le_refl _) _⟩
    by_cases h3 : n < -1000
    · go_enter Tryd.func74, Tryd.ntmps74
      go_wp2_with (go_at_call 110; refine (specAcct _ _ hs).mono ?_; rintro e w' ⟨rfl, rfl⟩)
      go_ret
      exact ⟨ret_bool (legB_n0 h3).symm, (Below.refl _ _).alloc (Nat.le_refl _) _⟩
    by_cases h4 : 1000 < n
    · go_enter Tryd.func74, Tryd.ntmps74
      go_wp2_with (go_at_call 110; refine (specAcct _ _ hs).mono ?_; rintro e w' ⟨rfl, rfl⟩)
      go_ret
      exact ⟨ret_bool (legB_n1 h4).symm, (Below.refl _ _).alloc (Nat.le_refl _) _⟩
    by_cases h5 : n = 0
    · subst h5
      go_enter Tryd.func74, Tryd.ntmps74
      go_wp2_with (go_at_call 110; refine (specAcct _ _ hs).mono ?_; rintro e w' ⟨rfl, rfl⟩)
      go_ret
      exact ⟨ret_bool legB_z.symm, (Below.refl _ _).alloc (Nat.le_refl _) _⟩
    · have h6 : (n != 0) = true := by simpa using h5
      go_enter Tryd.func74, Tryd.ntmps74
      go_wp2_with (go_at_call 110; refine (specAcct _ _ hs).mono ?_; rintro e w' ⟨rfl, rfl⟩)
      go_ret
      exact ⟨ret_bool (legB_yes ha (by omega) (by omega) (by omega) (by omega) h5).symm, (Below.refl _ _).alloc (Nat.le_refl _) _⟩

set_option maxHeartbeats 400000 in
theorem implLeg (s : ByteArray) (c n : Int) (w : World) (hs : s.size ≤ maxLen) :
    Calls Tryd.prog 73 #[.agg #[.string s, .int .i64 c, .int .i64 n]] w fun e w' => e = .returned (.bool (legB (s, c, n))) ∧ Below w.heap.size w w' := by
  cases ha : acctB s with
  | false =>
    go_enter Tryd.func73, Tryd.ntmps73
    go_wp2_with (go_at_call 109; refine (implAcct _ _ hs).mono ?_; rintro e w1 ⟨rfl, hb⟩; obtain ⟨hc, hf⟩ := bcell hb)
    go_ret
    exact ⟨ret_bool (legB_acct ha).symm, ((Below.refl _ _).alloc (Nat.le_refl _) _).trans (hb.mono (by simp))⟩
  | true =>
    by_cases h1 : c < 1
    · go_enter Tryd.func73, Tryd.ntmps73
      go_wp2_with (go_at_call 109; refine (implAcct _ _ hs).mono ?_; rintro e w1 ⟨rfl, hb⟩; obtain ⟨hc, hf⟩ := bcell hb)
      go_ret
      exact ⟨ret_bool (legB_c1 h1).symm, ((Below.refl _ _).alloc (Nat.le_refl _) _).trans (hb.mono (by simp))⟩
    by_cases h2 : 3 < c
    · go_enter Tryd.func73, Tryd.ntmps73
      go_wp2_with (go_at_call 109; refine (implAcct _ _ hs).mono ?_; rintro e w1 ⟨rfl, hb⟩; obtain ⟨hc, hf⟩ := bcell hb)
      go_ret
      exact ⟨ret_bool (legB_c3 h2).symm, ((Below.refl _ _).alloc (Nat.le_refl _) _).trans (hb.mono (by simp))⟩
    by_cases h3 : n < -1000
    · go_enter Tryd.func73, Tryd.ntmps73
      go_wp2_with (go_at_call 109; refine (implAcct _ _ hs).mono ?_; rintro e w1 ⟨rfl, hb⟩; obtain ⟨hc, hf⟩ := bcell hb)
      go_ret
      exact ⟨ret_bool (legB_n0 h3).symm, ((Below.refl _ _).alloc (Nat.le_refl _) _).trans (hb.mono (by simp))⟩
    by_cases h4 : 1000 < n
    · go_enter Tryd.func73, Tryd.ntmps73
      go_wp2_with (go_at_call 109; refine (implAcct _ _ hs).mono ?_; rintro e w1 ⟨rfl, hb⟩; obtain ⟨hc, hf⟩ := bcell hb)
      go_ret
      exact ⟨ret_bool (legB_n1 h4).symm, ((Below.refl _ _).alloc (Nat.le_refl _) _).trans (hb.mono (by simp))⟩
    by_cases h5 : n = 0
    · subst h5
      go_enter Tryd.func73, Tryd.ntmps73
      go_wp2_with (go_at_call 109; refine (implAcct _ _ hs).mono ?_; rintro e w1 ⟨rfl, hb⟩; obtain ⟨hc, hf⟩ := bcell hb)
      go_ret
      exact ⟨ret_bool legB_z.symm, ((Below.refl _ _).alloc (Nat.le_refl _) _).trans (hb.mono (by simp))⟩
    · have h6 : (n != 0) = true := by simpa using h5
      go_enter Tryd.func73, Tryd.ntmps73
      go_wp2_with (go_at_call 109; refine (implAcct _ _ hs).mono ?_; rintro e w1 ⟨rfl, hb⟩; obtain ⟨hc, hf⟩ := bcell hb)
      go_ret
      exact ⟨ret_bool (legB_yes ha (by omega) (by omega) (by omega) (by omega) h5).symm, ((Below.refl _ _).alloc (Nat.le_refl _) _).trans (hb.mono (by simp))⟩

end Go.Proofs.YtfblpbihpmhgjaaDoor

namespace Go.Proofs.YtfblpbihpmhgjaaDoor
open Go.RowKit Go.Joins Go.ChangeShapes Go.WideShapes

theorem Tryd.cellsLegL : Tryd.prog.cellsOf 125 = 3 := by kernel_rfl

/-- A leg that the program's int kinds can hold. -/
def LegW (l : LegD) : Prop := l.1.size ≤ maxLen ∧ (Lit.int .i64 l.2.1).wf = true ∧ (Lit.int .i64 l.2.2).wf = true

set_option maxRecDepth 100000 in
theorem open_leg {H : Type} {enc : TypeId × Value → H} {W : World} {b0 base : Nat} {spare : Nat → Bool} {held : Bool} {v : Value} {d : DataW H} {p : List MemPlace}
    (hv : Value.okWide Tryd.prog W .any b0 125 v) (h : DataW.Trod enc Tryd.prog W base spare held 125 v d p) :
    ∃ l : LegD, v = .agg #[.string l.1, .int .i64 l.2.1, .int .i64 l.2.2] ∧ LegW l := by
  obtain ⟨c0, c1, c2, y0, y1, y2, m, rfl, _, _, hy0, hy1, hy2⟩ := open_agg3 Tryd.underlying125 (by kernel_rfl) Tryd.cellsLegL hv h
  obtain ⟨s, e0, _, ws⟩ := DataW.trod_string Tryd.underlying9 hy0
  obtain ⟨c, e1, _, wc⟩ := DataW.trod_int Tryd.underlying3 hy1
  obtain ⟨n, e2, _, wn⟩ := DataW.trod_int Tryd.underlying3 hy2
  simp at e0 e1 e2
  subst e0 e1 e2
  exact ⟨(s, c, n), rfl, ws, wc, wn⟩

set_option maxHeartbeats 400000 in
theorem szLeg_no (s : ByteArray) (c n left : Int) (w : World) (hs : s.size ≤ maxLen) (h0 : 0 ≤ left) (h1 : left ≤ 1048576) (h : left < s.size) :
    Calls Tryd.prog 90 #[.agg #[.string s, .int .i64 c, .int .i64 n], .int .i64 left] w fun e w' => e = .returned (.int .i64 (-1)) ∧ Below w.heap.size w w' := by
  unfold maxLen at hs
  go_enter Tryd.func90, Tryd.ntmps90
  go_wp2
  go_ret
  exact ⟨rfl, (Below.refl _ _).alloc (Nat.le_refl _) _⟩

set_option maxHeartbeats 400000 in
theorem szLeg_yes (s : ByteArray) (c n left : Int) (w : World) (h0 : 0 ≤ left) (h1 : left ≤ 1048576) (h : (s.size : Int) ≤ left) :
    Calls Tryd.prog 90 #[.agg #[.string s, .int .i64 c, .int .i64 n], .int .i64 left] w fun e w' => e = .returned (.int .i64 (left - s.size)) ∧ Below w.heap.size w w' := by
  go_enter Tryd.func90, Tryd.ntmps90
  go_wp2
  go_ret
  exact ⟨rfl, (Below.refl _ _).alloc (Nat.le_refl _) _⟩

set_option maxHeartbeats 400000 in
theorem toLeg_any (s : ByteArray) (c n : Int) (w : World) :
    Calls Tryd.prog 91 #[.agg #[.string s, .int .i64 c, .int .i64 n]] w fun e w' => e = .returned (.agg #[.string s, .int .i64 c, .int .i64 n]) ∧ Below w.heap.size w w' := by
  go_enter Tryd.func91, Tryd.ntmps91
  go_wp2
  refine bodyPost_ret (v := .agg #[.string s, .int .i64 c, .int .i64 n]) (by simp [results, Tryd.results91, go_sem]) rfl ⟨rfl, ?_⟩
  exact (((Below.refl _ _).alloc (Nat.le_refl _) _).alloc (by simp) _).alloc (by simp; omega) _

end Go.Proofs.YtfblpbihpmhgjaaDoor
