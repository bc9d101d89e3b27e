/-
  What a loop body over a function leaves as it was; no statement of the program stands here.
-/
import Derived.Test.YtkdalacclafihaaEnts
import Derived.RangeFuncNested
import Derived.RangeFuncBound
import Derived.RangeFuncCalls
import Derived.RangeFuncLeaves
import Derived.RangeFuncBox
import Derived.Shelf.Abstract
import Derived.Shelf.RegionOpen
import Derived.WalkKit
import Derived.OwnWalkIn
import Derived.TacticsInMore
import Derived.LoopNIn
import Derived.LoopIn
namespace Go.Proofs.Ytkdalacclafihaa
open Go.RowKit Go.Shelf

/-- The blocks of K are as they were. -/
structure KeepS (K : Nat → Prop) (w w' : World) : Prop where
  os : w'.os = w.os
  tape : w'.tape = w.tape
  output : w'.output = w.output
  size : w.heap.size ≤ w'.heap.size
  block : ∀ k, K k → w'.heap[k]? = w.heap[k]?
theorem KeepS.of {K : Nat → Prop} {n₀ : Nat} {w w' : World} (h : Below n₀ w w') (hK : ∀ k, K k → k < n₀) : KeepS K w w' := ⟨h.os, h.tape, h.output, h.size, fun k hk => h.block k (hK k hk)⟩
theorem KeepS.refl (K : Nat → Prop) (w : World) : KeepS K w w := ⟨rfl, rfl, rfl, Nat.le_refl _, fun _ _ => rfl⟩
theorem KeepS.trans {K : Nat → Prop} {a b c : World} (h : KeepS K a b) (k : KeepS K b c) : KeepS K a c :=
  ⟨k.os.trans h.os, k.tape.trans h.tape, k.output.trans h.output, Nat.le_trans h.size k.size, fun i hi => (k.block i hi).trans (h.block i hi)⟩
theorem KeepS.cell {K : Nat → Prop} {w w' : World} (h : KeepS K w w') {p : Addr} (hp : K p.block) : w'.cell? p = w.cell? p := World.cell?_of_block (w := w) (h.block p.block hp)
theorem KeepS.grown {K : Nat → Prop} {w w' : World} {row : Option Nat} (hg : w.grownBy w' row) (hK : ∀ k, K k → k < w.heap.size ∧ some k ≠ row) : KeepS K w w' := ⟨hg.os, hg.tape, hg.output, hg.size, fun k hk => hg.block k (hK k hk).1 (hK k hk).2⟩
theorem keepS_b {K : Nat → Prop} {w : World} (hK : ∀ k, K k → k < w.heap.size) (W : World) (l : Nat) (o o' : Obj) (hl : w.heap.size ≤ l) (h : W.heap[l]? = some o) (hc : o.isCells = false) (hw : o.isWalk = false) : KeepS K W (W.putObj l o') :=
  KeepS.of (belowK_b (n₀ := w.heap.size) (w := w) (Nat.le_refl _) W l o o' hl h hc hw) hK
theorem EntsAt.keepS {K : Nat → Prop} {w w' : World} {a : Option Addr} {len cap : Nat} {L : List EntD} (h : EntsAt w a len cap L) (hk : KeepS K w w') (hK : ∀ x, a = some x → 0 < len → K x.block) : EntsAt w' a len cap L :=
  h.moved hk.size (fun x e hp o => hk.cell (p := ⟨x.block, o, none⟩) (hK x e hp))
end Go.Proofs.Ytkdalacclafihaa
