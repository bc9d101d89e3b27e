/-
  An array's elements by their places.
-/
import Derived.Test.YtkeodfajgpbgaaaRuns
namespace Go.Proofs.Ytkeodfajgpbgaaa
open Go.RowKit

theorem idxR_0 (w : World) (a0 a1 a2 : Option Addr) (n0 c0 n1 c1 n2 c2 : Nat) : (Instr.index 113 (.agg #[.slice a0 n0 c0, .slice a1 n1 c1, .slice a2 n2 c2]) (.int .i64 0)).run Try.prog w = .ok (.slice a0 n0 c0) w := by
  simp [Instr.index, run_underlying Try.underlying113, asIntOf, go_sem, Try.isAgg111, Try.sizeOf111, part]
theorem idxR_1 (w : World) (a0 a1 a2 : Option Addr) (n0 c0 n1 c1 n2 c2 : Nat) : (Instr.index 113 (.agg #[.slice a0 n0 c0, .slice a1 n1 c1, .slice a2 n2 c2]) (.int .i64 1)).run Try.prog w = .ok (.slice a1 n1 c1) w := by
  simp [Instr.index, run_underlying Try.underlying113, asIntOf, go_sem, Try.isAgg111, Try.sizeOf111, part]
theorem idxR_2 (w : World) (a0 a1 a2 : Option Addr) (n0 c0 n1 c1 n2 c2 : Nat) : (Instr.index 113 (.agg #[.slice a0 n0 c0, .slice a1 n1 c1, .slice a2 n2 c2]) (.int .i64 2)).run Try.prog w = .ok (.slice a2 n2 c2) w := by
  simp [Instr.index, run_underlying Try.underlying113, asIntOf, go_sem, Try.isAgg111, Try.sizeOf111, part]

end Go.Proofs.Ytkeodfajgpbgaaa
