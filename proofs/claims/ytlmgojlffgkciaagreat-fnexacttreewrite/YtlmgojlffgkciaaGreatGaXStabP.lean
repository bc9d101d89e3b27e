/-
  Rows in order made one, and the steps of the library's stable sort, on plain rows. No statement of the program stands here.
-/
import Derived.Test.YtlmgojlffgkciaaGreatGaXCellS
namespace Go.Proofs.YtlmgojlffgkciaaGreat
open Go.RowKit
/-! Two rows in order made one, the first ahead where times are alike. -/
def Asc (A : List EntD) : Prop := A.Pairwise (fun a b => a.2.1 ≤ b.2.1)
/-! Rows of so many, each in order. -/
/-! The steps of the library's stable sort, on plain rows. -/
end Go.Proofs.YtlmgojlffgkciaaGreat
