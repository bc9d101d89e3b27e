/-
  What the program makes of an entry's kind: the four types behind its interface, what each says of an entry and does to a cell, by walks of their Go text.
  What the program's CellDo makes of every cell and every entry, kind by kind, by walks of its Go text.
-/
import Derived.Test.YthhiahjafhkbbaaGreatBn08
import Derived.Test.YthhiahjafhkbbaaGreatBn02
import Derived.Deep.RegionHeld3
import Derived.Deep.DeepCutAuto
namespace Go.Proofs.YthhiahjafhkbbaaGreat
open Go.RowKit

set_option maxHeartbeats 400000 in
theorem kindOf_putKind (k t : ByteArray) (q n : Int) (w : World) :
    Calls Tryz.prog 47 #[.agg #[.string k, .int .i64 q, .int .i64 1, .string t, .int .i64 n]] w fun e w' => e = .returned (.iface 137 (.agg #[])) ∧ Below w.heap.size w w' := by
  go_enter Tryz.func47, Tryz.ntmps47
  go_wp2
  go_ret
  exact ⟨rfl, (Below.refl _ _).alloc (Nat.le_refl _) _⟩

set_option maxHeartbeats 400000 in
theorem kindOf_delKind (k t : ByteArray) (q n : Int) (w : World) :
    Calls Tryz.prog 47 #[.agg #[.string k, .int .i64 q, .int .i64 2, .string t, .int .i64 n]] w fun e w' => e = .returned (.iface 138 (.agg #[])) ∧ Below w.heap.size w w' := by
  go_enter Tryz.func47, Tryz.ntmps47
  go_wp2
  go_ret
  exact ⟨rfl, (Below.refl _ _).alloc (Nat.le_refl _) _⟩

set_option maxHeartbeats 400000 in
theorem kindOf_addKind (k t : ByteArray) (q n : Int) (w : World) :
    Calls Tryz.prog 47 #[.agg #[.string k, .int .i64 q, .int .i64 3, .string t, .int .i64 n]] w fun e w' => e = .returned (.iface 139 (.agg #[])) ∧ Below w.heap.size w w' := by
  go_enter Tryz.func47, Tryz.ntmps47
  go_wp2
  go_ret
  exact ⟨rfl, (Below.refl _ _).alloc (Nat.le_refl _) _⟩

set_option maxHeartbeats 400000 in
theorem kindOf_noKind (k t : ByteArray) (q d n : Int) (w : World) (d1 : ¬ d = 1) (d2 : ¬ d = 2) (d3 : ¬ d = 3) :
    Calls Tryz.prog 47 #[.agg #[.string k, .int .i64 q, .int .i64 d, .string t, .int .i64 n]] w fun e w' => e = .returned (.iface 140 (.agg #[])) ∧ Below w.heap.size w w' := by
  have e1 : (d == 1) = false := by simpa using d1
  have e2 : (d == 2) = false := by simpa using d2
  have e3 : (d == 3) = false := by simpa using d3
  go_enter Tryz.func47, Tryz.ntmps47
  go_wp2
  go_ret
  exact ⟨rfl, (Below.refl _ _).alloc (Nat.le_refl _) _⟩

set_option maxHeartbeats 400000 in
theorem fits_putKind (k t : ByteArray) (q n : Int) (w : World) :
    Calls Tryz.prog 209 #[.agg #[], .agg #[.string k, .int .i64 q, .int .i64 1, .string t, .int .i64 n]] w fun e w' => e = .returned (.bool (kindB 1 t n)) ∧ Below w.heap.size w w' := by
  go_enter Tryz.func209, Tryz.ntmps209
  go_wp2
  go_ret
  exact ⟨ret_bool (kindB_1 (t := t) (n := n)).symm, ((Below.refl _ _).alloc (Nat.le_refl _) _).alloc (by simp) _⟩

set_option maxHeartbeats 400000 in
theorem fits_delKind (k t : ByteArray) (q n : Int) (w : World) :
    Calls Tryz.prog 211 #[.agg #[], .agg #[.string k, .int .i64 q, .int .i64 2, .string t, .int .i64 n]] w fun e w' => e = .returned (.bool (kindB 2 t n)) ∧ Below w.heap.size w w' := by
  by_cases t0 : t = ByteArray.empty
  · subst t0
    by_cases n0 : n = 0
    · subst n0
      go_enter Tryz.func211, Tryz.ntmps211
      go_wp2
      all_goals
        go_ret
        exact ⟨ret_bool (by rw [kindB_2]; rfl), ((Below.refl _ _).alloc (Nat.le_refl _) _).alloc (by simp) _⟩
    · have n1 : (n == 0) = false := by simpa using n0
      go_enter Tryz.func211, Tryz.ntmps211
      go_wp2
      all_goals
        go_ret
        exact ⟨ret_bool (by rw [kindB_2]; simp [n0]), ((Below.refl _ _).alloc (Nat.le_refl _) _).alloc (by simp) _⟩
  · have t1 := size_pos_of_ne t0
    have t2 := toList_ne t0
    go_enter Tryz.func211, Tryz.ntmps211
    go_wp2
    all_goals
      go_ret
      exact ⟨ret_bool (by rw [kindB_2]; simp [t1]), ((Below.refl _ _).alloc (Nat.le_refl _) _).alloc (by simp) _⟩

set_option maxHeartbeats 400000 in
theorem fits_addKind (k t : ByteArray) (q n : Int) (w : World) :
    Calls Tryz.prog 213 #[.agg #[], .agg #[.string k, .int .i64 q, .int .i64 3, .string t, .int .i64 n]] w fun e w' => e = .returned (.bool (kindB 3 t n)) ∧ Below w.heap.size w w' := by
  by_cases t0 : t = ByteArray.empty
  · subst t0
    go_enter Tryz.func213, Tryz.ntmps213
    go_wp2
    all_goals
      go_ret
      exact ⟨ret_bool (by rw [kindB_3]; rfl), ((Below.refl _ _).alloc (Nat.le_refl _) _).alloc (by simp) _⟩
  · have t1 := size_pos_of_ne t0
    have t2 := toList_ne t0
    go_enter Tryz.func213, Tryz.ntmps213
    go_wp2
    all_goals
      go_ret
      exact ⟨ret_bool (by rw [kindB_3]; simp [t1, t2]), ((Below.refl _ _).alloc (Nat.le_refl _) _).alloc (by simp) _⟩

set_option maxHeartbeats 400000 in
theorem fits_noKind (k t : ByteArray) (q d n : Int) (w : World) (d1 : ¬ d = 1) (d2 : ¬ d = 2) (d3 : ¬ d = 3) :
    Calls Tryz.prog 215 #[.agg #[], .agg #[.string k, .int .i64 q, .int .i64 d, .string t, .int .i64 n]] w fun e w' => e = .returned (.bool (kindB d t n)) ∧ Below w.heap.size w w' := by
  go_enter Tryz.func215, Tryz.ntmps215
  go_wp2
  go_ret
  exact ⟨ret_bool (kindB_0 d1 d2 d3).symm, ((Below.refl _ _).alloc (Nat.le_refl _) _).alloc (by simp) _⟩

end Go.Proofs.YthhiahjafhkbbaaGreat

namespace Go.Proofs.YthhiahjafhkbbaaGreat
open Go.RowKit

attribute [local go_sem] Oper.semAt_some

/-- A cell as the program has it. -/
def cellV (c : CellD) : Value := .agg #[.bool c.1, .string c.2.1, .int .i64 c.2.2]
def cellN (b : Bool) (t : ByteArray) (n : Int) (d : Int) (t' : ByteArray) (n' : Int) : CellD :=
  if d = 1 then (true, t', n') else if d = 2 then (false, ⟨#[]⟩, 0) else if d = 3 then (true, t, wrap64 (n + n')) else (b, t, n)
theorem cellN_1 {b : Bool} {t t' : ByteArray} {n n' : Int} : cellN b t n 1 t' n' = (true, t', n') := by simp [cellN]
theorem cellN_2 {b : Bool} {t t' : ByteArray} {n n' : Int} : cellN b t n 2 t' n' = (false, ⟨#[]⟩, 0) := by simp [cellN]
theorem cellN_3 {b : Bool} {t t' : ByteArray} {n n' : Int} : cellN b t n 3 t' n' = (true, t, wrap64 (n + n')) := by simp [cellN]
theorem cellN_0 {b : Bool} {t t' : ByteArray} {n d n' : Int} (h1 : ¬ d = 1) (h2 : ¬ d = 2) (h3 : ¬ d = 3) : cellN b t n d t' n' = (b, t, n) := by simp [cellN, h1, h2, h3]
theorem cellV_ret {c c' : CellD} (h : c = c') : Ending.returned (cellV c) = .returned (cellV c') := by rw [h]

set_option maxRecDepth 100000 in
set_option maxHeartbeats 400000 in
theorem do_putKind (b : Bool) (t k t' : ByteArray) (n q d n' : Int) (w : World) :
    Calls Tryz.prog 208 #[.agg #[], .agg #[.bool b, .string t, .int .i64 n], .agg #[.string k, .int .i64 q, .int .i64 d, .string t', .int .i64 n']] w fun e w' => e = .returned (cellV (true, t', n')) ∧ Below w.heap.size w w' := by
  go_enter Tryz.func208, Tryz.ntmps208
  go_wp2
  refine bodyPost_ret (v := .agg #[.bool true, .string t', .int .i64 n']) (by simp [results, Tryz.results208, go_sem]) rfl ⟨rfl, ?_⟩
  exact (((((Below.refl _ _).alloc (Nat.le_refl _) _).alloc (by simp) _).alloc (by simp; omega) _).alloc (by simp; omega) _)

set_option maxRecDepth 100000 in
set_option maxHeartbeats 400000 in
theorem do_delKind (b : Bool) (t k t' : ByteArray) (n q d n' : Int) (w : World) :
    Calls Tryz.prog 210 #[.agg #[], .agg #[.bool b, .string t, .int .i64 n], .agg #[.string k, .int .i64 q, .int .i64 d, .string t', .int .i64 n']] w fun e w' => e = .returned (cellV (false, ⟨#[]⟩, 0)) ∧ Below w.heap.size w w' := by
  go_enter Tryz.func210, Tryz.ntmps210
  go_wp2
  refine bodyPost_ret (v := .agg #[.bool false, .string ⟨#[]⟩, .int .i64 0]) (by simp [results, Tryz.results210, go_sem]) rfl ⟨rfl, ?_⟩
  exact (((((Below.refl _ _).alloc (Nat.le_refl _) _).alloc (by simp) _).alloc (by simp; omega) _).alloc (by simp; omega) _)

set_option maxRecDepth 100000 in
set_option maxHeartbeats 400000 in
theorem do_addKind (b : Bool) (t k t' : ByteArray) (n q d n' : Int) (w : World) :
    Calls Tryz.prog 212 #[.agg #[], .agg #[.bool b, .string t, .int .i64 n], .agg #[.string k, .int .i64 q, .int .i64 d, .string t', .int .i64 n']] w fun e w' => e = .returned (cellV (true, t, wrap64 (n + n'))) ∧ Below w.heap.size w w' := by
  go_enter Tryz.func212, Tryz.ntmps212
  go_wp2
  refine bodyPost_ret (v := .agg #[.bool true, .string t, .int .i64 (wrap64 (n + n'))]) (by simp [results, Tryz.results212, go_sem]) rfl ⟨rfl, ?_⟩
  exact (((((Below.refl _ _).alloc (Nat.le_refl _) _).alloc (by simp) _).alloc (by simp; omega) _).alloc (by simp; omega) _)

set_option maxRecDepth 100000 in
set_option maxHeartbeats 400000 in
theorem do_noKind (b : Bool) (t k t' : ByteArray) (n q d n' : Int) (w : World) :
    Calls Tryz.prog 214 #[.agg #[], .agg #[.bool b, .string t, .int .i64 n], .agg #[.string k, .int .i64 q, .int .i64 d, .string t', .int .i64 n']] w fun e w' => e = .returned (cellV (b, t, n)) ∧ Below w.heap.size w w' := by
  go_enter Tryz.func214, Tryz.ntmps214
  go_wp2
  refine bodyPost_ret (v := .agg #[.bool b, .string t, .int .i64 n]) (by simp [results, Tryz.results214, go_sem]) rfl ⟨rfl, ?_⟩
  exact (((((Below.refl _ _).alloc (Nat.le_refl _) _).alloc (by simp) _).alloc (by simp; omega) _).alloc (by simp; omega) _)

end Go.Proofs.YthhiahjafhkbbaaGreat
