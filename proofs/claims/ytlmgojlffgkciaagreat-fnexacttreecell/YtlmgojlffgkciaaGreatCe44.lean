/-
  What the document's CellDo makes of every cell and every entry, by a walk of its Go text.
-/
import Derived.Test.YtlmgojlffgkciaaGreatCe28
namespace Go.Proofs.YtlmgojlffgkciaaGreat
open Go.RowKit
set_option maxRecDepth 100000
set_option maxHeartbeats 1000000
attribute [local go_sem] Oper.semAt_some
theorem specCell (b : Bool) (t k t' : ByteArray) (n q d n' : Int) (w : World) :
    Calls Tryz.prog 125 #[.agg #[.bool b, .string t, .int .i64 n], .agg #[.string k, .int .i64 q, .int .i64 d, .string t', .int .i64 n']] w fun e w' => e = .returned (cellV (cellN b t n d t' n')) ∧ Below w.heap.size w w' := by
  by_cases d1 : d = 1
  · subst d1
    go_enter Tryz.func125, Tryz.ntmps125
    go_wp2
    refine bodyPost_ret (v := .agg #[.bool true, .string t', .int .i64 n']) (by simp [results, Tryz.results125, go_sem]) rfl ⟨by rw [cellN_1]; rfl, ?_⟩
    exact ((((Below.refl _ _).alloc (Nat.le_refl _) _).alloc (by simp) _).alloc (by simp; omega) _)
  by_cases d2 : d = 2
  · subst d2
    go_enter Tryz.func125, Tryz.ntmps125
    go_wp2
    refine bodyPost_ret (v := .agg #[.bool false, .string ⟨#[]⟩, .int .i64 0]) (by simp [results, Tryz.results125, go_sem]) rfl ⟨by rw [cellN_2]; rfl, ?_⟩
    exact ((((Below.refl _ _).alloc (Nat.le_refl _) _).alloc (by simp) _).alloc (by simp; omega) _)
  by_cases d3 : d = 3
  · subst d3
    go_enter Tryz.func125, Tryz.ntmps125
    go_wp2
    refine bodyPost_ret (v := .agg #[.bool true, .string t, .int .i64 (wrap64 (n + n'))]) (by simp [results, Tryz.results125, go_sem]) rfl ⟨by rw [cellN_3]; rfl, ?_⟩
    exact ((((Below.refl _ _).alloc (Nat.le_refl _) _).alloc (by simp) _).alloc (by simp; omega) _)
  have e1 : (d == 1) = false := by simpa using d1
  have e2 : (d == 2) = false := by simpa using d2
  have e3 : (d == 3) = false := by simpa using d3
  go_enter Tryz.func125, Tryz.ntmps125
  go_wp2
  refine bodyPost_ret (v := .agg #[.bool b, .string t, .int .i64 n]) (by simp [results, Tryz.results125, go_sem]) rfl ⟨by rw [cellN_0 d1 d2 d3]; rfl, ?_⟩
  exact ((((Below.refl _ _).alloc (Nat.le_refl _) _).alloc (by simp) _).alloc (by simp; omega) _)
end Go.Proofs.YtlmgojlffgkciaaGreat
