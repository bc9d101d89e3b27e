/-
  Entries in the order of their times, and what a key has by them, in plain words; the library's insertion sort gives that order. No statement of the program stands here.
  What a key has, by plain lists: it goes on entry by entry, and no order of unlike times matters. No statement of the program stands here.
  What a key has is its last reset and what was added since, by plain lists. No statement of the program stands here.
-/
import Derived.Sort.Defs
import Derived.Deep.RegionHeld3
import Derived.Deep.DeepCutAuto
import Derived.Test.YtlmgojlffgkciaaGreatGa10
import Derived.Test.YtlmgojlffgkciaaGreatGa00
namespace Go.Proofs.YtlmgojlffgkciaaGreat
open Go.RowKit
/-! The insertion sort that the library runs is this one. -/
/-! What a key has. -/
end Go.Proofs.YtlmgojlffgkciaaGreat
namespace Go.Proofs.YtlmgojlffgkciaaGreat
open Go.RowKit
/-! What the laws of cells say, of lists alone. -/
def UnT (L : List EntD) : Prop := L.Pairwise (fun a b => a.2.1 ≠ b.2.1)
theorem UnT.perm {A B : List EntD} (h : UnT A) (p : A.Perm B) : UnT B := (p.pairwise_iff (fun h => Ne.symm h)).1 h
end Go.Proofs.YtlmgojlffgkciaaGreat
namespace Go.Proofs.YtlmgojlffgkciaaGreat
open Go.RowKit
/-! A cell is its last reset and what was added since. -/
end Go.Proofs.YtlmgojlffgkciaaGreat
