/-
  What the program makes of an entry's kind: the four types behind its interface, what each says of an entry and does to a cell, by walks of their Go text.
-/
import Derived.Test.YtcabinakcmpkeaaDoorKey
import Derived.Test.YtcabinakcmpkeaaDoorBase
namespace Go.Proofs.YtcabinakcmpkeaaDoor
open Go.RowKit

set_option maxHeartbeats 400000 in
theorem kindOf_putKind (k t : ByteArray) (q n : Int) (w : World) :
    Calls Tryd.prog 102 #[.agg #[.string k, .int .i64 q, .int .i64 1, .string t, .int .i64 n]] w fun e w' => e = .returned (.iface 153 (.agg #[])) ∧ Below w.heap.size w w' := by
  go_enter Tryd.func102, Tryd.ntmps102
  go_wp2
  go_ret
  exact ⟨rfl, (Below.refl _ _).alloc (Nat.le_refl _) _⟩

set_option maxHeartbeats 400000 in
theorem kindOf_delKind (k t : ByteArray) (q n : Int) (w : World) :
    Calls Tryd.prog 102 #[.agg #[.string k, .int .i64 q, .int .i64 2, .string t, .int .i64 n]] w fun e w' => e = .returned (.iface 154 (.agg #[])) ∧ Below w.heap.size w w' := by
  go_enter Tryd.func102, Tryd.ntmps102
  go_wp2
  go_ret
  exact ⟨rfl, (Below.refl _ _).alloc (Nat.le_refl _) _⟩

set_option maxHeartbeats 400000 in
theorem kindOf_addKind (k t : ByteArray) (q n : Int) (w : World) :
    Calls Tryd.prog 102 #[.agg #[.string k, .int .i64 q, .int .i64 3, .string t, .int .i64 n]] w fun e w' => e = .returned (.iface 155 (.agg #[])) ∧ Below w.heap.size w w' := by
  go_enter Tryd.func102, Tryd.ntmps102
  go_wp2
  go_ret
  exact ⟨rfl, (Below.refl _ _).alloc (Nat.le_refl _) _⟩

set_option maxHeartbeats 400000 in
theorem kindOf_noKind (k t : ByteArray) (q d n : Int) (w : World) (d1 : ¬ d = 1) (d2 : ¬ d = 2) (d3 : ¬ d = 3) :
    Calls Tryd.prog 102 #[.agg #[.string k, .int .i64 q, .int .i64 d, .string t, .int .i64 n]] w fun e w' => e = .returned (.iface 156 (.agg #[])) ∧ Below w.heap.size w w' := by
  have e1 : (d == 1) = false := by simpa using d1
  have e2 : (d == 2) = false := by simpa using d2
  have e3 : (d == 3) = false := by simpa using d3
  go_enter Tryd.func102, Tryd.ntmps102
  go_wp2
  go_ret
  exact ⟨rfl, (Below.refl _ _).alloc (Nat.le_refl _) _⟩

set_option maxHeartbeats 400000 in
theorem fits_putKind (k t : ByteArray) (q n : Int) (w : World) :
    Calls Tryd.prog 159 #[.agg #[], .agg #[.string k, .int .i64 q, .int .i64 1, .string t, .int .i64 n]] w fun e w' => e = .returned (.bool (kindB 1 t n)) ∧ Below w.heap.size w w' := by
  go_enter Tryd.func159, Tryd.ntmps159
  go_wp2
  go_ret
  exact ⟨ret_bool (kindB_1 (t := t) (n := n)).symm, ((Below.refl _ _).alloc (Nat.le_refl _) _).alloc (by simp) _⟩

set_option maxHeartbeats 400000 in
theorem fits_delKind (k t : ByteArray) (q n : Int) (w : World) :
    Calls Tryd.prog 161 #[.agg #[], .agg #[.string k, .int .i64 q, .int .i64 2, .string t, .int .i64 n]] w fun e w' => e = .returned (.bool (kindB 2 t n)) ∧ Below w.heap.size w w' := by
  by_cases t0 : t = ByteArray.empty
  · subst t0
    by_cases n0 : n = 0
    · subst n0
      go_enter Tryd.func161, Tryd.ntmps161
      go_wp2
      all_goals
        go_ret
        exact ⟨ret_bool (by rw [kindB_2]; rfl), ((Below.refl _ _).alloc (Nat.le_refl _) _).alloc (by simp) _⟩
    · have n1 : (n == 0) = false := by simpa using n0
      go_enter Tryd.func161, Tryd.ntmps161
      go_wp2
      all_goals
        go_ret
        exact ⟨ret_bool (by rw [kindB_2]; simp [n0]), ((Below.refl _ _).alloc (Nat.le_refl _) _).alloc (by simp) _⟩
  · have t1 := size_pos_of_ne t0
    have t2 := toList_ne t0
    go_enter Tryd.func161, Tryd.ntmps161
    go_wp2
    all_goals
      go_ret
      exact ⟨ret_bool (by rw [kindB_2]; simp [t1]), ((Below.refl _ _).alloc (Nat.le_refl _) _).alloc (by simp) _⟩

set_option maxHeartbeats 400000 in
theorem fits_addKind (k t : ByteArray) (q n : Int) (w : World) :
    Calls Tryd.prog 163 #[.agg #[], .agg #[.string k, .int .i64 q, .int .i64 3, .string t, .int .i64 n]] w fun e w' => e = .returned (.bool (kindB 3 t n)) ∧ Below w.heap.size w w' := by
  by_cases t0 : t = ByteArray.empty
  · subst t0
    go_enter Tryd.func163, Tryd.ntmps163
    go_wp2
    all_goals
      go_ret
      exact ⟨ret_bool (by rw [kindB_3]; rfl), ((Below.refl _ _).alloc (Nat.le_refl _) _).alloc (by simp) _⟩
  · have t1 := size_pos_of_ne t0
    have t2 := toList_ne t0
    go_enter Tryd.func163, Tryd.ntmps163
    go_wp2
    all_goals
      go_ret
      exact ⟨ret_bool (by rw [kindB_3]; simp [t1, t2]), ((Below.refl _ _).alloc (Nat.le_refl _) _).alloc (by simp) _⟩

set_option maxHeartbeats 400000 in
theorem fits_noKind (k t : ByteArray) (q d n : Int) (w : World) (d1 : ¬ d = 1) (d2 : ¬ d = 2) (d3 : ¬ d = 3) :
    Calls Tryd.prog 165 #[.agg #[], .agg #[.string k, .int .i64 q, .int .i64 d, .string t, .int .i64 n]] w fun e w' => e = .returned (.bool (kindB d t n)) ∧ Below w.heap.size w w' := by
  go_enter Tryd.func165, Tryd.ntmps165
  go_wp2
  go_ret
  exact ⟨ret_bool (kindB_0 d1 d2 d3).symm, ((Below.refl _ _).alloc (Nat.le_refl _) _).alloc (by simp) _⟩

end Go.Proofs.YtcabinakcmpkeaaDoor
