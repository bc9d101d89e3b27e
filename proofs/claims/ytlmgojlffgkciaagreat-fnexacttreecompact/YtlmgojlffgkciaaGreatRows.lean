/-
  No cell of these rows narrows 'for every input' (looked for: loops, veiled, ifaces, maps, wideKeys, modest, calm, conditions, laid).
  DERIVED. THE GIVEN ROWS OF THIS SEAT. 7 by the template 'for every input the law returns true; each argument reads behind the call as it read before'; 0 by the template 'total and deterministic' (their statements: YtlmgojlffgkciaaGreatTotals.lean).
  GIVEN WITH THE SEED: the statements are not yours to turn. If you find one false, say at which input.
  Laid BY PROGRAM, IN A SANDBOX (cutbox-rows.mjs): the forced cells as the released guide's own fill.sh prints them over the translation d617add51da3fb6c… (all of the seat's roots in one cut). By AI agents, Wed Nov 11 2026. No macro, syntax, notation, axiom, sorry.
-/
import Derived.Test.YtlmgojlffgkciaaGreatChecked
import GoSem.Claim
import GoSem.ClaimJoined
import GoSem.ClaimMapViews
import Derived.JoinedTies
import Derived.KernelRfl
namespace Go.Proofs.YtlmgojlffgkciaaGreat
/- THE CELL 'sum', in the pinned program and in every row, IS THE sha256 OF THE DUMP (.gsa) THAT YtlmgojlffgkciaaGreatProg.lean LOADS. Nothing in Lean hashes anything: it is a label: what it is worth is what the hold of that sum in a sandbox is worth. -/
noncomputable def Tryz.pinned : Pinned := { name := "ytlmgojlffgkciaagreat", sum := "d617add51da3fb6c6375686963c7cae68464cfe756d1836c8181e8cb78018cb4", checked := Tryz.checked }
namespace Rows
def none {H : Type} : Left H := { results := [], args := [] }

/-- 'laws.FnExactTreeSnap': WHATEVER THE INPUT: true; the input reads as it did. -/
def fnExactTreeSnapSpec : ChangeSpec := { name := "fnExactTreeSnap", fn := fun _ => fun
  | [d] => { results := [.lit (.bool true)], args := [d] }
  | _ => none }
def fnExactTreeSnapRow : OpenClaim := { program := "ytlmgojlffgkciaagreat", sum := "d617add51da3fb6c6375686963c7cae68464cfe756d1836c8181e8cb78018cb4", func := "loop.example/comptoir/laws.FnExactTreeSnap", spec := "fnExactTreeSnap", inPlace := ["internal/bytealg.abigen_runtime_cmpstring"], unfollowed := true, recurses := true, apart := false }
def FnExactTreeSnapSaid : Prop := fnExactTreeSnapRow.holds Tryz.pinned (OpenSpec.ofChange fnExactTreeSnapSpec)

/-- ITS FALSE NEIGHBOUR: 'it returns false'. Refute it at one input. -/
def fnExactTreeSnapWrong : ChangeSpec := { name := "fnExactTreeSnap", fn := fun _ => fun
  | [d] => { results := [.lit (.bool false)], args := [d] }
  | _ => none }
def FnExactTreeSnapWrongFalsely : Prop := fnExactTreeSnapRow.holds Tryz.pinned (OpenSpec.ofChange fnExactTreeSnapWrong)

/-- 'laws.FnExactTreeDrop': WHATEVER THE INPUT: true; the input reads as it did. -/
def fnExactTreeDropSpec : ChangeSpec := { name := "fnExactTreeDrop", fn := fun _ => fun
  | [d1, d2] => { results := [.lit (.bool true)], args := [d1, d2] }
  | _ => none }
def fnExactTreeDropRow : OpenClaim := { program := "ytlmgojlffgkciaagreat", sum := "d617add51da3fb6c6375686963c7cae68464cfe756d1836c8181e8cb78018cb4", func := "loop.example/comptoir/laws.FnExactTreeDrop", spec := "fnExactTreeDrop", inPlace := ["internal/bytealg.abigen_runtime_cmpstring"], unfollowed := true, recurses := true, apart := false }
def FnExactTreeDropSaid : Prop := fnExactTreeDropRow.holds Tryz.pinned (OpenSpec.ofChange fnExactTreeDropSpec)

/-- ITS FALSE NEIGHBOUR: 'it returns false'. Refute it at one input. -/
def fnExactTreeDropWrong : ChangeSpec := { name := "fnExactTreeDrop", fn := fun _ => fun
  | [d1, d2] => { results := [.lit (.bool false)], args := [d1, d2] }
  | _ => none }
def FnExactTreeDropWrongFalsely : Prop := fnExactTreeDropRow.holds Tryz.pinned (OpenSpec.ofChange fnExactTreeDropWrong)

/-- 'laws.FnExactTreeCell': WHATEVER THE INPUT: true; the input reads as it did. -/
def fnExactTreeCellSpec : ChangeSpec := { name := "fnExactTreeCell", fn := fun _ => fun
  | [d1, d2, d3] => { results := [.lit (.bool true)], args := [d1, d2, d3] }
  | _ => none }
def fnExactTreeCellRow : OpenClaim := { program := "ytlmgojlffgkciaagreat", sum := "d617add51da3fb6c6375686963c7cae68464cfe756d1836c8181e8cb78018cb4", func := "loop.example/comptoir/laws.FnExactTreeCell", spec := "fnExactTreeCell", inPlace := ["internal/bytealg.abigen_runtime_cmpstring"], unfollowed := true, recurses := true, apart := false }
def FnExactTreeCellSaid : Prop := fnExactTreeCellRow.holds Tryz.pinned (OpenSpec.ofChange fnExactTreeCellSpec)

/-- ITS FALSE NEIGHBOUR: 'it returns false'. Refute it at one input. -/
def fnExactTreeCellWrong : ChangeSpec := { name := "fnExactTreeCell", fn := fun _ => fun
  | [d1, d2, d3] => { results := [.lit (.bool false)], args := [d1, d2, d3] }
  | _ => none }
def FnExactTreeCellWrongFalsely : Prop := fnExactTreeCellRow.holds Tryz.pinned (OpenSpec.ofChange fnExactTreeCellWrong)

/-- 'laws.FnExactTreeWrite': WHATEVER THE INPUT: true; the input reads as it did. -/
def fnExactTreeWriteSpec : ChangeSpec := { name := "fnExactTreeWrite", fn := fun _ => fun
  | [d1, d2] => { results := [.lit (.bool true)], args := [d1, d2] }
  | _ => none }
def fnExactTreeWriteRow : OpenClaim := { program := "ytlmgojlffgkciaagreat", sum := "d617add51da3fb6c6375686963c7cae68464cfe756d1836c8181e8cb78018cb4", func := "loop.example/comptoir/laws.FnExactTreeWrite", spec := "fnExactTreeWrite", inPlace := ["internal/bytealg.abigen_runtime_cmpstring"], unfollowed := true, recurses := true, apart := false }
def FnExactTreeWriteSaid : Prop := fnExactTreeWriteRow.holds Tryz.pinned (OpenSpec.ofChange fnExactTreeWriteSpec)

/-- ITS FALSE NEIGHBOUR: 'it returns false'. Refute it at one input. -/
def fnExactTreeWriteWrong : ChangeSpec := { name := "fnExactTreeWrite", fn := fun _ => fun
  | [d1, d2] => { results := [.lit (.bool false)], args := [d1, d2] }
  | _ => none }
def FnExactTreeWriteWrongFalsely : Prop := fnExactTreeWriteRow.holds Tryz.pinned (OpenSpec.ofChange fnExactTreeWriteWrong)

/-- 'laws.FnExactTreeFlush': WHATEVER THE INPUT: true; the input reads as it did. -/
def fnExactTreeFlushSpec : ChangeSpec := { name := "fnExactTreeFlush", fn := fun _ => fun
  | [d] => { results := [.lit (.bool true)], args := [d] }
  | _ => none }
def fnExactTreeFlushRow : OpenClaim := { program := "ytlmgojlffgkciaagreat", sum := "d617add51da3fb6c6375686963c7cae68464cfe756d1836c8181e8cb78018cb4", func := "loop.example/comptoir/laws.FnExactTreeFlush", spec := "fnExactTreeFlush", inPlace := ["internal/bytealg.abigen_runtime_cmpstring"], unfollowed := true, recurses := true, apart := false }
def FnExactTreeFlushSaid : Prop := fnExactTreeFlushRow.holds Tryz.pinned (OpenSpec.ofChange fnExactTreeFlushSpec)

/-- ITS FALSE NEIGHBOUR: 'it returns false'. Refute it at one input. -/
def fnExactTreeFlushWrong : ChangeSpec := { name := "fnExactTreeFlush", fn := fun _ => fun
  | [d] => { results := [.lit (.bool false)], args := [d] }
  | _ => none }
def FnExactTreeFlushWrongFalsely : Prop := fnExactTreeFlushRow.holds Tryz.pinned (OpenSpec.ofChange fnExactTreeFlushWrong)

/-- 'laws.FnExactTreeCompact': WHATEVER THE INPUT: true; the input reads as it did. -/
def fnExactTreeCompactSpec : ChangeSpec := { name := "fnExactTreeCompact", fn := fun _ => fun
  | [d1, d2, d3] => { results := [.lit (.bool true)], args := [d1, d2, d3] }
  | _ => none }
def fnExactTreeCompactRow : OpenClaim := { program := "ytlmgojlffgkciaagreat", sum := "d617add51da3fb6c6375686963c7cae68464cfe756d1836c8181e8cb78018cb4", func := "loop.example/comptoir/laws.FnExactTreeCompact", spec := "fnExactTreeCompact", inPlace := ["internal/bytealg.abigen_runtime_cmpstring"], unfollowed := true, recurses := true, apart := false }
def FnExactTreeCompactSaid : Prop := fnExactTreeCompactRow.holds Tryz.pinned (OpenSpec.ofChange fnExactTreeCompactSpec)

/-- ITS FALSE NEIGHBOUR: 'it returns false'. Refute it at one input. -/
def fnExactTreeCompactWrong : ChangeSpec := { name := "fnExactTreeCompact", fn := fun _ => fun
  | [d1, d2, d3] => { results := [.lit (.bool false)], args := [d1, d2, d3] }
  | _ => none }
def FnExactTreeCompactWrongFalsely : Prop := fnExactTreeCompactRow.holds Tryz.pinned (OpenSpec.ofChange fnExactTreeCompactWrong)

/-- 'laws.FnExactTreeAll': WHATEVER THE INPUT: true; the input reads as it did. -/
def fnExactTreeAllSpec : ChangeSpec := { name := "fnExactTreeAll", fn := fun _ => fun
  | [d] => { results := [.lit (.bool true)], args := [d] }
  | _ => none }
def fnExactTreeAllRow : OpenClaim := { program := "ytlmgojlffgkciaagreat", sum := "d617add51da3fb6c6375686963c7cae68464cfe756d1836c8181e8cb78018cb4", func := "loop.example/comptoir/laws.FnExactTreeAll", spec := "fnExactTreeAll", inPlace := ["internal/bytealg.abigen_runtime_cmpstring"], unfollowed := true, recurses := true, apart := false }
def FnExactTreeAllSaid : Prop := fnExactTreeAllRow.holds Tryz.pinned (OpenSpec.ofChange fnExactTreeAllSpec)

/-- ITS FALSE NEIGHBOUR: 'it returns false'. Refute it at one input. -/
def fnExactTreeAllWrong : ChangeSpec := { name := "fnExactTreeAll", fn := fun _ => fun
  | [d] => { results := [.lit (.bool false)], args := [d] }
  | _ => none }
def FnExactTreeAllWrongFalsely : Prop := fnExactTreeAllRow.holds Tryz.pinned (OpenSpec.ofChange fnExactTreeAllWrong)

/- THE SECOND FORM. 'bulk': how many values and letters a reading holds, each counted each time it is reached (what is shared counts as often as it is met; a slice's spare places count too). A statement '..UptoSaid' is the law's where the arguments, and the package variables that the reading takes, are together of bulk at most 1048576: NARROWER than '..Said'. Prove '..Said' where nothing that the law and all that it calls make is longer than what came in: it says more and counts as full. Else prove '..UptoSaid'. A law counts once. -/
mutual
def uptoBulk {H : Type} : DataW H → Nat
  | .lit (.string bytes) => bytes.length + 1
  | .lit _ => 1
  | .nil => 1
  | .ptr d => uptoBulk d + 1
  | .slice elems spare => uptoBulkAll elems + uptoBulkAll spare + 1
  | .agg parts => uptoBulkAll parts + 1
  | .iface _ d => uptoBulk d + 1
  | .map entries => uptoBulkEntries entries + 1
  | .held _ => 1
def uptoBulkAll {H : Type} : List (DataW H) → Nat
  | [] => 0
  | d :: r => uptoBulk d + uptoBulkAll r
def uptoBulkEntries {H : Type} : List (Lit × DataW H) → Nat
  | [] => 0
  | x :: r => uptoBulkEntry x + uptoBulkEntries r
def uptoBulkEntry {H : Type} : Lit × DataW H → Nat
  | (.string bytes, d) => bytes.length + uptoBulk d + 1
  | (_, d) => uptoBulk d + 1
 end
def uptoSmall : (H : Type) → List (DataW H) → Bool := fun _ ds => decide (uptoBulkAll ds ≤ 1048576)
def OpenSpec.upto (s : _root_.Go.ChangeSpec) : _root_.Go.OpenSpec := { _root_.Go.OpenSpec.ofChange s with cond := some uptoSmall }

/-- 'laws.FnExactTreeSnap', WHERE WHAT IT READS IS OF BULK AT MOST 1048576: true; the input reads as it did. -/
def fnExactTreeSnapUptoRow : OpenClaim := { program := "ytlmgojlffgkciaagreat", sum := "d617add51da3fb6c6375686963c7cae68464cfe756d1836c8181e8cb78018cb4", func := "loop.example/comptoir/laws.FnExactTreeSnap", spec := "fnExactTreeSnap", inPlace := ["internal/bytealg.abigen_runtime_cmpstring"], unfollowed := true, recurses := true, apart := false, narrowed := true }
def FnExactTreeSnapUptoSaid : Prop := fnExactTreeSnapUptoRow.holds Tryz.pinned (OpenSpec.upto fnExactTreeSnapSpec)

/-- 'laws.FnExactTreeDrop', WHERE WHAT IT READS IS OF BULK AT MOST 1048576: true; the input reads as it did. -/
def fnExactTreeDropUptoRow : OpenClaim := { program := "ytlmgojlffgkciaagreat", sum := "d617add51da3fb6c6375686963c7cae68464cfe756d1836c8181e8cb78018cb4", func := "loop.example/comptoir/laws.FnExactTreeDrop", spec := "fnExactTreeDrop", inPlace := ["internal/bytealg.abigen_runtime_cmpstring"], unfollowed := true, recurses := true, apart := false, narrowed := true }
def FnExactTreeDropUptoSaid : Prop := fnExactTreeDropUptoRow.holds Tryz.pinned (OpenSpec.upto fnExactTreeDropSpec)

/-- 'laws.FnExactTreeCell', WHERE WHAT IT READS IS OF BULK AT MOST 1048576: true; the input reads as it did. -/
def fnExactTreeCellUptoRow : OpenClaim := { program := "ytlmgojlffgkciaagreat", sum := "d617add51da3fb6c6375686963c7cae68464cfe756d1836c8181e8cb78018cb4", func := "loop.example/comptoir/laws.FnExactTreeCell", spec := "fnExactTreeCell", inPlace := ["internal/bytealg.abigen_runtime_cmpstring"], unfollowed := true, recurses := true, apart := false, narrowed := true }
def FnExactTreeCellUptoSaid : Prop := fnExactTreeCellUptoRow.holds Tryz.pinned (OpenSpec.upto fnExactTreeCellSpec)

/-- 'laws.FnExactTreeWrite', WHERE WHAT IT READS IS OF BULK AT MOST 1048576: true; the input reads as it did. -/
def fnExactTreeWriteUptoRow : OpenClaim := { program := "ytlmgojlffgkciaagreat", sum := "d617add51da3fb6c6375686963c7cae68464cfe756d1836c8181e8cb78018cb4", func := "loop.example/comptoir/laws.FnExactTreeWrite", spec := "fnExactTreeWrite", inPlace := ["internal/bytealg.abigen_runtime_cmpstring"], unfollowed := true, recurses := true, apart := false, narrowed := true }
def FnExactTreeWriteUptoSaid : Prop := fnExactTreeWriteUptoRow.holds Tryz.pinned (OpenSpec.upto fnExactTreeWriteSpec)

/-- 'laws.FnExactTreeFlush', WHERE WHAT IT READS IS OF BULK AT MOST 1048576: true; the input reads as it did. -/
def fnExactTreeFlushUptoRow : OpenClaim := { program := "ytlmgojlffgkciaagreat", sum := "d617add51da3fb6c6375686963c7cae68464cfe756d1836c8181e8cb78018cb4", func := "loop.example/comptoir/laws.FnExactTreeFlush", spec := "fnExactTreeFlush", inPlace := ["internal/bytealg.abigen_runtime_cmpstring"], unfollowed := true, recurses := true, apart := false, narrowed := true }
def FnExactTreeFlushUptoSaid : Prop := fnExactTreeFlushUptoRow.holds Tryz.pinned (OpenSpec.upto fnExactTreeFlushSpec)

/-- 'laws.FnExactTreeCompact', WHERE WHAT IT READS IS OF BULK AT MOST 1048576: true; the input reads as it did. -/
def fnExactTreeCompactUptoRow : OpenClaim := { program := "ytlmgojlffgkciaagreat", sum := "d617add51da3fb6c6375686963c7cae68464cfe756d1836c8181e8cb78018cb4", func := "loop.example/comptoir/laws.FnExactTreeCompact", spec := "fnExactTreeCompact", inPlace := ["internal/bytealg.abigen_runtime_cmpstring"], unfollowed := true, recurses := true, apart := false, narrowed := true }
def FnExactTreeCompactUptoSaid : Prop := fnExactTreeCompactUptoRow.holds Tryz.pinned (OpenSpec.upto fnExactTreeCompactSpec)

/-- 'laws.FnExactTreeAll', WHERE WHAT IT READS IS OF BULK AT MOST 1048576: true; the input reads as it did. -/
def fnExactTreeAllUptoRow : OpenClaim := { program := "ytlmgojlffgkciaagreat", sum := "d617add51da3fb6c6375686963c7cae68464cfe756d1836c8181e8cb78018cb4", func := "loop.example/comptoir/laws.FnExactTreeAll", spec := "fnExactTreeAll", inPlace := ["internal/bytealg.abigen_runtime_cmpstring"], unfollowed := true, recurses := true, apart := false, narrowed := true }
def FnExactTreeAllUptoSaid : Prop := fnExactTreeAllUptoRow.holds Tryz.pinned (OpenSpec.upto fnExactTreeAllSpec)

end Rows
end Go.Proofs.YtlmgojlffgkciaaGreat
