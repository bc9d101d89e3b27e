/-
  What the program's CellDo makes of every cell and every entry, kind by kind, by walks of its Go text.
-/
import Derived.Test.YtkdalacclafihaaKind
import Derived.Deep.RegionHeld3
import Derived.Deep.DeepCutAuto
namespace Go.Proofs.Ytkdalacclafihaa
open Go.RowKit

attribute [local go_sem] Oper.semAt_some

/-- A cell as the program has it. -/
def cellV (c : CellD) : Value := .agg #[.bool c.1, .string c.2.1, .int .i64 c.2.2]
def cellN (b : Bool) (t : ByteArray) (n : Int) (d : Int) (t' : ByteArray) (n' : Int) : CellD :=
  if d = 1 then (true, t', n') else if d = 2 then (false, ⟨#[]⟩, 0) else if d = 3 then (true, t, wrap64 (n + n')) else (b, t, n)
theorem cellN_1 {b : Bool} {t t' : ByteArray} {n n' : Int} : cellN b t n 1 t' n' = (true, t', n') := by simp [cellN]
theorem cellN_2 {b : Bool} {t t' : ByteArray} {n n' : Int} : cellN b t n 2 t' n' = (false, ⟨#[]⟩, 0) := by simp [cellN]
theorem cellN_3 {b : Bool} {t t' : ByteArray} {n n' : Int} : cellN b t n 3 t' n' = (true, t, wrap64 (n + n')) := by simp [cellN]
theorem cellN_0 {b : Bool} {t t' : ByteArray} {n d n' : Int} (h1 : ¬ d = 1) (h2 : ¬ d = 2) (h3 : ¬ d = 3) : cellN b t n d t' n' = (b, t, n) := by simp [cellN, h1, h2, h3]
theorem cellV_ret {c c' : CellD} (h : c = c') : Ending.returned (cellV c) = .returned (cellV c') := by rw [h]

set_option maxRecDepth 100000 in
set_option maxHeartbeats 400000 in
theorem do_putKind (b : Bool) (t k t' : ByteArray) (n q d n' : Int) (w : World) :
    Calls Try.prog 129 #[.agg #[], .agg #[.bool b, .string t, .int .i64 n], .agg #[.string k, .int .i64 q, .int .i64 d, .string t', .int .i64 n']] w fun e w' => e = .returned (cellV (true, t', n')) ∧ Below w.heap.size w w' := by
  go_enter Try.func129, Try.ntmps129
  go_wp2
  refine bodyPost_ret (v := .agg #[.bool true, .string t', .int .i64 n']) (by simp [results, Try.results129, go_sem]) rfl ⟨rfl, ?_⟩
  exact (((((Below.refl _ _).alloc (Nat.le_refl _) _).alloc (by simp) _).alloc (by simp; omega) _).alloc (by simp; omega) _)

set_option maxRecDepth 100000 in
set_option maxHeartbeats 400000 in
theorem do_delKind (b : Bool) (t k t' : ByteArray) (n q d n' : Int) (w : World) :
    Calls Try.prog 131 #[.agg #[], .agg #[.bool b, .string t, .int .i64 n], .agg #[.string k, .int .i64 q, .int .i64 d, .string t', .int .i64 n']] w fun e w' => e = .returned (cellV (false, ⟨#[]⟩, 0)) ∧ Below w.heap.size w w' := by
  go_enter Try.func131, Try.ntmps131
  go_wp2
  refine bodyPost_ret (v := .agg #[.bool false, .string ⟨#[]⟩, .int .i64 0]) (by simp [results, Try.results131, go_sem]) rfl ⟨rfl, ?_⟩
  exact (((((Below.refl _ _).alloc (Nat.le_refl _) _).alloc (by simp) _).alloc (by simp; omega) _).alloc (by simp; omega) _)

set_option maxRecDepth 100000 in
set_option maxHeartbeats 400000 in
theorem do_addKind (b : Bool) (t k t' : ByteArray) (n q d n' : Int) (w : World) :
    Calls Try.prog 133 #[.agg #[], .agg #[.bool b, .string t, .int .i64 n], .agg #[.string k, .int .i64 q, .int .i64 d, .string t', .int .i64 n']] w fun e w' => e = .returned (cellV (true, t, wrap64 (n + n'))) ∧ Below w.heap.size w w' := by
  go_enter Try.func133, Try.ntmps133
  go_wp2
  refine bodyPost_ret (v := .agg #[.bool true, .string t, .int .i64 (wrap64 (n + n'))]) (by simp [results, Try.results133, go_sem]) rfl ⟨rfl, ?_⟩
  exact (((((Below.refl _ _).alloc (Nat.le_refl _) _).alloc (by simp) _).alloc (by simp; omega) _).alloc (by simp; omega) _)

set_option maxRecDepth 100000 in
set_option maxHeartbeats 400000 in
theorem do_noKind (b : Bool) (t k t' : ByteArray) (n q d n' : Int) (w : World) :
    Calls Try.prog 135 #[.agg #[], .agg #[.bool b, .string t, .int .i64 n], .agg #[.string k, .int .i64 q, .int .i64 d, .string t', .int .i64 n']] w fun e w' => e = .returned (cellV (b, t, n)) ∧ Below w.heap.size w w' := by
  go_enter Try.func135, Try.ntmps135
  go_wp2
  refine bodyPost_ret (v := .agg #[.bool b, .string t, .int .i64 n]) (by simp [results, Try.results135, go_sem]) rfl ⟨rfl, ?_⟩
  exact (((((Below.refl _ _).alloc (Nat.le_refl _) _).alloc (by simp) _).alloc (by simp; omega) _).alloc (by simp; omega) _)

end Go.Proofs.Ytkdalacclafihaa
