/-
  Texts of right entries are small: plain facts.
-/
import Derived.Test.YtlmgojlffgkciaaGreatGa00
namespace Go.Proofs.YtlmgojlffgkciaaGreat
open Go.RowKit
theorem entB_sizes {k t : ByteArray} {q d n : Int} (h : entB k q d t n = true) : k.size ≤ 281474976710656 ∧ t.size ≤ 281474976710656 := by
  simp [entB, keyB] at h
  omega
end Go.Proofs.YtlmgojlffgkciaaGreat
