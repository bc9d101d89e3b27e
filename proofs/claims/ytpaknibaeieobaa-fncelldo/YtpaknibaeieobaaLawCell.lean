/-
  The laws' own helpers over one cell (size, copy, held against another), by walks of their Go text.
-/
import Derived.Test.YtpaknibaeieobaaLawEnt
namespace Go.Proofs.Ytpaknibaeieobaa
open Go.RowKit Go.Joins Go.ChangeShapes Go.WideShapes

set_option maxHeartbeats 400000 in
theorem szCell_no (b : Bool) (t : ByteArray) (n left : Int) (w : World) (ht : t.size ≤ maxLen) (h0 : 0 ≤ left) (h1 : left ≤ 1048576) (h : left < t.size) :
    Calls Try.prog 23 #[.agg #[.bool b, .string t, .int .i64 n], .int .i64 left] w fun e w' => e = .returned (.int .i64 (-1)) ∧ Below w.heap.size w w' := by
  unfold maxLen at ht
  go_enter Try.func23, Try.ntmps23
  go_wp2
  go_ret
  exact ⟨rfl, (Below.refl _ _).alloc (Nat.le_refl _) _⟩

set_option maxHeartbeats 400000 in
theorem szCell_yes (b : Bool) (t : ByteArray) (n left : Int) (w : World) (h1 : left ≤ 1048576) (h : (t.size : Int) ≤ left) :
    Calls Try.prog 23 #[.agg #[.bool b, .string t, .int .i64 n], .int .i64 left] w fun e w' => e = .returned (.int .i64 (left - t.size)) ∧ Below w.heap.size w w' := by
  go_enter Try.func23, Try.ntmps23
  go_wp2
  go_ret
  exact ⟨rfl, (Below.refl _ _).alloc (Nat.le_refl _) _⟩

set_option maxHeartbeats 400000 in
theorem toCell_any (b : Bool) (t : ByteArray) (n : Int) (w : World) :
    Calls Try.prog 25 #[.agg #[.bool b, .string t, .int .i64 n]] w fun e w' => e = .returned (.agg #[.bool b, .string t, .int .i64 n]) ∧ Below w.heap.size w w' := by
  go_enter Try.func25, Try.ntmps25
  go_wp2
  refine bodyPost_ret (v := .agg #[.bool b, .string t, .int .i64 n]) (by simp [results, Try.results25, go_sem]) rfl ⟨rfl, ?_⟩
  exact (((Below.refl _ _).alloc (Nat.le_refl _) _).alloc (by simp) _).alloc (by simp; omega) _

set_option maxHeartbeats 400000 in
theorem eqCell_same (b : Bool) (t : ByteArray) (n : Int) (w : World) :
    Calls Try.prog 27 #[.agg #[.bool b, .string t, .int .i64 n], .agg #[.bool b, .string t, .int .i64 n]] w fun e w' => e = .returned (.bool true) ∧ Below w.heap.size w w' := by
  have hb : (b != b) = false := by cases b <;> rfl
  go_enter Try.func27, Try.ntmps27
  go_wp2
  go_ret
  exact ⟨rfl, ((Below.refl _ _).alloc (Nat.le_refl _) _).alloc (by simp) _⟩

end Go.Proofs.Ytpaknibaeieobaa
