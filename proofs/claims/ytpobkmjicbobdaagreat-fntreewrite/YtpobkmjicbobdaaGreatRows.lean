/-
  No cell of these rows narrows 'for every input' (looked for: loops, veiled, ifaces, maps, wideKeys, modest, calm, conditions, laid).
  DERIVED. THE GIVEN ROWS OF THIS SEAT. 12 by the template 'for every input the law returns true; each argument reads behind the call as it read before'; 0 by the template 'total and deterministic' (their statements: YtpobkmjicbobdaaGreatTotals.lean).
  GIVEN WITH THE SEED: the statements are not yours to turn. If you find one false, say at which input.
  Laid BY PROGRAM, IN A SANDBOX (cutbox-rows.mjs): the forced cells as the released guide's own fill.sh prints them over the translation f95a8d3dbd1a20c3… (all of the seat's roots in one cut). By AI agents, Wed Nov 11 2026. No macro, syntax, notation, axiom, sorry.
-/
import Derived.Test.YtpobkmjicbobdaaGreatChecked
import GoSem.Claim
import GoSem.ClaimJoined
import GoSem.ClaimMapViews
import Derived.JoinedTies
import Derived.KernelRfl
namespace Go.Proofs.YtpobkmjicbobdaaGreat
/- THE CELL 'sum', in the pinned program and in every row, IS THE sha256 OF THE DUMP (.gsa) THAT YtpobkmjicbobdaaGreatProg.lean LOADS. Nothing in Lean hashes anything: it is a label: what it is worth is what the hold of that sum in a sandbox is worth. -/
noncomputable def Tryz.pinned : Pinned := { name := "ytpobkmjicbobdaagreat", sum := "f95a8d3dbd1a20c308542918d001dc6f16266941b07cd882073761487b23634f", checked := Tryz.checked }
namespace Rows
def none {H : Type} : Left H := { results := [], args := [] }

/-- 'laws.FnExactTreeCompact': WHATEVER THE INPUT: true; the input reads as it did. -/
def fnExactTreeCompactSpec : ChangeSpec := { name := "fnExactTreeCompact", fn := fun _ => fun
  | [d1, d2, d3] => { results := [.lit (.bool true)], args := [d1, d2, d3] }
  | _ => none }
def fnExactTreeCompactRow : OpenClaim := { program := "ytpobkmjicbobdaagreat", sum := "f95a8d3dbd1a20c308542918d001dc6f16266941b07cd882073761487b23634f", func := "loop.example/comptoir/laws.FnExactTreeCompact", spec := "fnExactTreeCompact", inPlace := ["internal/bytealg.abigen_runtime_cmpstring"], unfollowed := true, recurses := true, apart := false }
def FnExactTreeCompactSaid : Prop := fnExactTreeCompactRow.holds Tryz.pinned (OpenSpec.ofChange fnExactTreeCompactSpec)

/-- ITS FALSE NEIGHBOUR: 'it returns false'. Refute it at one input. -/
def fnExactTreeCompactWrong : ChangeSpec := { name := "fnExactTreeCompact", fn := fun _ => fun
  | [d1, d2, d3] => { results := [.lit (.bool false)], args := [d1, d2, d3] }
  | _ => none }
def FnExactTreeCompactWrongFalsely : Prop := fnExactTreeCompactRow.holds Tryz.pinned (OpenSpec.ofChange fnExactTreeCompactWrong)

/-- 'laws.FnTreeBent': WHATEVER THE INPUT: true; the input reads as it did. -/
def fnTreeBentSpec : ChangeSpec := { name := "fnTreeBent", fn := fun _ => fun
  | [d] => { results := [.lit (.bool true)], args := [d] }
  | _ => none }
def fnTreeBentRow : OpenClaim := { program := "ytpobkmjicbobdaagreat", sum := "f95a8d3dbd1a20c308542918d001dc6f16266941b07cd882073761487b23634f", func := "loop.example/comptoir/laws.FnTreeBent", spec := "fnTreeBent", inPlace := ["internal/bytealg.abigen_runtime_cmpstring"], unfollowed := true, recurses := true, apart := false }
def FnTreeBentSaid : Prop := fnTreeBentRow.holds Tryz.pinned (OpenSpec.ofChange fnTreeBentSpec)

/-- ITS FALSE NEIGHBOUR: 'it returns false'. Refute it at one input. -/
def fnTreeBentWrong : ChangeSpec := { name := "fnTreeBent", fn := fun _ => fun
  | [d] => { results := [.lit (.bool false)], args := [d] }
  | _ => none }
def FnTreeBentWrongFalsely : Prop := fnTreeBentRow.holds Tryz.pinned (OpenSpec.ofChange fnTreeBentWrong)

/-- 'laws.FnTreeRefuse': WHATEVER THE INPUT: true; the input reads as it did. -/
def fnTreeRefuseSpec : ChangeSpec := { name := "fnTreeRefuse", fn := fun _ => fun
  | [d] => { results := [.lit (.bool true)], args := [d] }
  | _ => none }
def fnTreeRefuseRow : OpenClaim := { program := "ytpobkmjicbobdaagreat", sum := "f95a8d3dbd1a20c308542918d001dc6f16266941b07cd882073761487b23634f", func := "loop.example/comptoir/laws.FnTreeRefuse", spec := "fnTreeRefuse", inPlace := ["internal/bytealg.abigen_runtime_cmpstring"], unfollowed := true, recurses := true, apart := false }
def FnTreeRefuseSaid : Prop := fnTreeRefuseRow.holds Tryz.pinned (OpenSpec.ofChange fnTreeRefuseSpec)

/-- ITS FALSE NEIGHBOUR: 'it returns false'. Refute it at one input. -/
def fnTreeRefuseWrong : ChangeSpec := { name := "fnTreeRefuse", fn := fun _ => fun
  | [d] => { results := [.lit (.bool false)], args := [d] }
  | _ => none }
def FnTreeRefuseWrongFalsely : Prop := fnTreeRefuseRow.holds Tryz.pinned (OpenSpec.ofChange fnTreeRefuseWrong)

/-- 'laws.FnTreeSnaps': WHATEVER THE INPUT: true; the input reads as it did. -/
def fnTreeSnapsSpec : ChangeSpec := { name := "fnTreeSnaps", fn := fun _ => fun
  | [d] => { results := [.lit (.bool true)], args := [d] }
  | _ => none }
def fnTreeSnapsRow : OpenClaim := { program := "ytpobkmjicbobdaagreat", sum := "f95a8d3dbd1a20c308542918d001dc6f16266941b07cd882073761487b23634f", func := "loop.example/comptoir/laws.FnTreeSnaps", spec := "fnTreeSnaps", inPlace := ["internal/bytealg.abigen_runtime_cmpstring"], unfollowed := true, recurses := true, apart := false }
def FnTreeSnapsSaid : Prop := fnTreeSnapsRow.holds Tryz.pinned (OpenSpec.ofChange fnTreeSnapsSpec)

/-- ITS FALSE NEIGHBOUR: 'it returns false'. Refute it at one input. -/
def fnTreeSnapsWrong : ChangeSpec := { name := "fnTreeSnaps", fn := fun _ => fun
  | [d] => { results := [.lit (.bool false)], args := [d] }
  | _ => none }
def FnTreeSnapsWrongFalsely : Prop := fnTreeSnapsRow.holds Tryz.pinned (OpenSpec.ofChange fnTreeSnapsWrong)

/-- 'laws.FnTreeLast': WHATEVER THE INPUT: true; the input reads as it did. -/
def fnTreeLastSpec : ChangeSpec := { name := "fnTreeLast", fn := fun _ => fun
  | [d1, d2] => { results := [.lit (.bool true)], args := [d1, d2] }
  | _ => none }
def fnTreeLastRow : OpenClaim := { program := "ytpobkmjicbobdaagreat", sum := "f95a8d3dbd1a20c308542918d001dc6f16266941b07cd882073761487b23634f", func := "loop.example/comptoir/laws.FnTreeLast", spec := "fnTreeLast", inPlace := ["internal/bytealg.abigen_runtime_cmpstring"], unfollowed := true, recurses := true, apart := false }
def FnTreeLastSaid : Prop := fnTreeLastRow.holds Tryz.pinned (OpenSpec.ofChange fnTreeLastSpec)

/-- ITS FALSE NEIGHBOUR: 'it returns false'. Refute it at one input. -/
def fnTreeLastWrong : ChangeSpec := { name := "fnTreeLast", fn := fun _ => fun
  | [d1, d2] => { results := [.lit (.bool false)], args := [d1, d2] }
  | _ => none }
def FnTreeLastWrongFalsely : Prop := fnTreeLastRow.holds Tryz.pinned (OpenSpec.ofChange fnTreeLastWrong)

/-- 'laws.FnTreeCell': WHATEVER THE INPUT: true; the input reads as it did. -/
def fnTreeCellSpec : ChangeSpec := { name := "fnTreeCell", fn := fun _ => fun
  | [d] => { results := [.lit (.bool true)], args := [d] }
  | _ => none }
def fnTreeCellRow : OpenClaim := { program := "ytpobkmjicbobdaagreat", sum := "f95a8d3dbd1a20c308542918d001dc6f16266941b07cd882073761487b23634f", func := "loop.example/comptoir/laws.FnTreeCell", spec := "fnTreeCell", inPlace := ["internal/bytealg.abigen_runtime_cmpstring"], unfollowed := true, recurses := true, apart := false }
def FnTreeCellSaid : Prop := fnTreeCellRow.holds Tryz.pinned (OpenSpec.ofChange fnTreeCellSpec)

/-- ITS FALSE NEIGHBOUR: 'it returns false'. Refute it at one input. -/
def fnTreeCellWrong : ChangeSpec := { name := "fnTreeCell", fn := fun _ => fun
  | [d] => { results := [.lit (.bool false)], args := [d] }
  | _ => none }
def FnTreeCellWrongFalsely : Prop := fnTreeCellRow.holds Tryz.pinned (OpenSpec.ofChange fnTreeCellWrong)

/-- 'laws.FnTreeDrop': WHATEVER THE INPUT: true; the input reads as it did. -/
def fnTreeDropSpec : ChangeSpec := { name := "fnTreeDrop", fn := fun _ => fun
  | [d] => { results := [.lit (.bool true)], args := [d] }
  | _ => none }
def fnTreeDropRow : OpenClaim := { program := "ytpobkmjicbobdaagreat", sum := "f95a8d3dbd1a20c308542918d001dc6f16266941b07cd882073761487b23634f", func := "loop.example/comptoir/laws.FnTreeDrop", spec := "fnTreeDrop", inPlace := ["internal/bytealg.abigen_runtime_cmpstring"], unfollowed := true, recurses := true, apart := false }
def FnTreeDropSaid : Prop := fnTreeDropRow.holds Tryz.pinned (OpenSpec.ofChange fnTreeDropSpec)

/-- ITS FALSE NEIGHBOUR: 'it returns false'. Refute it at one input. -/
def fnTreeDropWrong : ChangeSpec := { name := "fnTreeDrop", fn := fun _ => fun
  | [d] => { results := [.lit (.bool false)], args := [d] }
  | _ => none }
def FnTreeDropWrongFalsely : Prop := fnTreeDropRow.holds Tryz.pinned (OpenSpec.ofChange fnTreeDropWrong)

/-- 'laws.FnTreeFlush': WHATEVER THE INPUT: true; the input reads as it did. -/
def fnTreeFlushSpec : ChangeSpec := { name := "fnTreeFlush", fn := fun _ => fun
  | [d] => { results := [.lit (.bool true)], args := [d] }
  | _ => none }
def fnTreeFlushRow : OpenClaim := { program := "ytpobkmjicbobdaagreat", sum := "f95a8d3dbd1a20c308542918d001dc6f16266941b07cd882073761487b23634f", func := "loop.example/comptoir/laws.FnTreeFlush", spec := "fnTreeFlush", inPlace := ["internal/bytealg.abigen_runtime_cmpstring"], unfollowed := true, recurses := true, apart := false }
def FnTreeFlushSaid : Prop := fnTreeFlushRow.holds Tryz.pinned (OpenSpec.ofChange fnTreeFlushSpec)

/-- ITS FALSE NEIGHBOUR: 'it returns false'. Refute it at one input. -/
def fnTreeFlushWrong : ChangeSpec := { name := "fnTreeFlush", fn := fun _ => fun
  | [d] => { results := [.lit (.bool false)], args := [d] }
  | _ => none }
def FnTreeFlushWrongFalsely : Prop := fnTreeFlushRow.holds Tryz.pinned (OpenSpec.ofChange fnTreeFlushWrong)

/-- 'laws.FnTreeWrite': WHATEVER THE INPUT: true; the input reads as it did. -/
def fnTreeWriteSpec : ChangeSpec := { name := "fnTreeWrite", fn := fun _ => fun
  | [d] => { results := [.lit (.bool true)], args := [d] }
  | _ => none }
def fnTreeWriteRow : OpenClaim := { program := "ytpobkmjicbobdaagreat", sum := "f95a8d3dbd1a20c308542918d001dc6f16266941b07cd882073761487b23634f", func := "loop.example/comptoir/laws.FnTreeWrite", spec := "fnTreeWrite", inPlace := ["internal/bytealg.abigen_runtime_cmpstring"], unfollowed := true, recurses := true, apart := false }
def FnTreeWriteSaid : Prop := fnTreeWriteRow.holds Tryz.pinned (OpenSpec.ofChange fnTreeWriteSpec)

/-- ITS FALSE NEIGHBOUR: 'it returns false'. Refute it at one input. -/
def fnTreeWriteWrong : ChangeSpec := { name := "fnTreeWrite", fn := fun _ => fun
  | [d] => { results := [.lit (.bool false)], args := [d] }
  | _ => none }
def FnTreeWriteWrongFalsely : Prop := fnTreeWriteRow.holds Tryz.pinned (OpenSpec.ofChange fnTreeWriteWrong)

/-- 'laws.FnTreeCompact': WHATEVER THE INPUT: true; the input reads as it did. -/
def fnTreeCompactSpec : ChangeSpec := { name := "fnTreeCompact", fn := fun _ => fun
  | [d] => { results := [.lit (.bool true)], args := [d] }
  | _ => none }
def fnTreeCompactRow : OpenClaim := { program := "ytpobkmjicbobdaagreat", sum := "f95a8d3dbd1a20c308542918d001dc6f16266941b07cd882073761487b23634f", func := "loop.example/comptoir/laws.FnTreeCompact", spec := "fnTreeCompact", inPlace := ["internal/bytealg.abigen_runtime_cmpstring"], unfollowed := true, recurses := true, apart := false }
def FnTreeCompactSaid : Prop := fnTreeCompactRow.holds Tryz.pinned (OpenSpec.ofChange fnTreeCompactSpec)

/-- ITS FALSE NEIGHBOUR: 'it returns false'. Refute it at one input. -/
def fnTreeCompactWrong : ChangeSpec := { name := "fnTreeCompact", fn := fun _ => fun
  | [d] => { results := [.lit (.bool false)], args := [d] }
  | _ => none }
def FnTreeCompactWrongFalsely : Prop := fnTreeCompactRow.holds Tryz.pinned (OpenSpec.ofChange fnTreeCompactWrong)

/-- 'laws.FnTreeTwo': WHATEVER THE INPUT: true; the input reads as it did. -/
def fnTreeTwoSpec : ChangeSpec := { name := "fnTreeTwo", fn := fun _ => fun
  | [d] => { results := [.lit (.bool true)], args := [d] }
  | _ => none }
def fnTreeTwoRow : OpenClaim := { program := "ytpobkmjicbobdaagreat", sum := "f95a8d3dbd1a20c308542918d001dc6f16266941b07cd882073761487b23634f", func := "loop.example/comptoir/laws.FnTreeTwo", spec := "fnTreeTwo", inPlace := ["internal/bytealg.abigen_runtime_cmpstring"], unfollowed := true, recurses := true, apart := false }
def FnTreeTwoSaid : Prop := fnTreeTwoRow.holds Tryz.pinned (OpenSpec.ofChange fnTreeTwoSpec)

/-- ITS FALSE NEIGHBOUR: 'it returns false'. Refute it at one input. -/
def fnTreeTwoWrong : ChangeSpec := { name := "fnTreeTwo", fn := fun _ => fun
  | [d] => { results := [.lit (.bool false)], args := [d] }
  | _ => none }
def FnTreeTwoWrongFalsely : Prop := fnTreeTwoRow.holds Tryz.pinned (OpenSpec.ofChange fnTreeTwoWrong)

/-- 'laws.FnTreeSnap': WHATEVER THE INPUT: true; the input reads as it did. -/
def fnTreeSnapSpec : ChangeSpec := { name := "fnTreeSnap", fn := fun _ => fun
  | [d1, d2] => { results := [.lit (.bool true)], args := [d1, d2] }
  | _ => none }
def fnTreeSnapRow : OpenClaim := { program := "ytpobkmjicbobdaagreat", sum := "f95a8d3dbd1a20c308542918d001dc6f16266941b07cd882073761487b23634f", func := "loop.example/comptoir/laws.FnTreeSnap", spec := "fnTreeSnap", inPlace := ["internal/bytealg.abigen_runtime_cmpstring"], unfollowed := true, recurses := true, apart := false }
def FnTreeSnapSaid : Prop := fnTreeSnapRow.holds Tryz.pinned (OpenSpec.ofChange fnTreeSnapSpec)

/-- ITS FALSE NEIGHBOUR: 'it returns false'. Refute it at one input. -/
def fnTreeSnapWrong : ChangeSpec := { name := "fnTreeSnap", fn := fun _ => fun
  | [d1, d2] => { results := [.lit (.bool false)], args := [d1, d2] }
  | _ => none }
def FnTreeSnapWrongFalsely : Prop := fnTreeSnapRow.holds Tryz.pinned (OpenSpec.ofChange fnTreeSnapWrong)

/- THE SECOND FORM. 'bulk': how many values and letters a reading holds, each counted each time it is reached (what is shared counts as often as it is met; a slice's spare places count too). A statement '..UptoSaid' is the law's where the arguments, and the package variables that the reading takes, are together of bulk at most 1048576: NARROWER than '..Said'. Prove '..Said' where nothing that the law and all that it calls make is longer than what came in: it says more and counts as full. Else prove '..UptoSaid'. A law counts once. -/
mutual
def uptoBulk {H : Type} : DataW H → Nat
  | .lit (.string bytes) => bytes.length + 1
  | .lit _ => 1
  | .nil => 1
  | .ptr d => uptoBulk d + 1
  | .slice elems spare => uptoBulkAll elems + uptoBulkAll spare + 1
  | .agg parts => uptoBulkAll parts + 1
  | .iface _ d => uptoBulk d + 1
  | .map entries => uptoBulkEntries entries + 1
  | .held _ => 1
def uptoBulkAll {H : Type} : List (DataW H) → Nat
  | [] => 0
  | d :: r => uptoBulk d + uptoBulkAll r
def uptoBulkEntries {H : Type} : List (Lit × DataW H) → Nat
  | [] => 0
  | x :: r => uptoBulkEntry x + uptoBulkEntries r
def uptoBulkEntry {H : Type} : Lit × DataW H → Nat
  | (.string bytes, d) => bytes.length + uptoBulk d + 1
  | (_, d) => uptoBulk d + 1
 end
def uptoSmall : (H : Type) → List (DataW H) → Bool := fun _ ds => decide (uptoBulkAll ds ≤ 1048576)
def OpenSpec.upto (s : _root_.Go.ChangeSpec) : _root_.Go.OpenSpec := { _root_.Go.OpenSpec.ofChange s with cond := some uptoSmall }

/-- 'laws.FnExactTreeCompact', WHERE WHAT IT READS IS OF BULK AT MOST 1048576: true; the input reads as it did. -/
def fnExactTreeCompactUptoRow : OpenClaim := { program := "ytpobkmjicbobdaagreat", sum := "f95a8d3dbd1a20c308542918d001dc6f16266941b07cd882073761487b23634f", func := "loop.example/comptoir/laws.FnExactTreeCompact", spec := "fnExactTreeCompact", inPlace := ["internal/bytealg.abigen_runtime_cmpstring"], unfollowed := true, recurses := true, apart := false, narrowed := true }
def FnExactTreeCompactUptoSaid : Prop := fnExactTreeCompactUptoRow.holds Tryz.pinned (OpenSpec.upto fnExactTreeCompactSpec)

/-- 'laws.FnTreeBent', WHERE WHAT IT READS IS OF BULK AT MOST 1048576: true; the input reads as it did. -/
def fnTreeBentUptoRow : OpenClaim := { program := "ytpobkmjicbobdaagreat", sum := "f95a8d3dbd1a20c308542918d001dc6f16266941b07cd882073761487b23634f", func := "loop.example/comptoir/laws.FnTreeBent", spec := "fnTreeBent", inPlace := ["internal/bytealg.abigen_runtime_cmpstring"], unfollowed := true, recurses := true, apart := false, narrowed := true }
def FnTreeBentUptoSaid : Prop := fnTreeBentUptoRow.holds Tryz.pinned (OpenSpec.upto fnTreeBentSpec)

/-- 'laws.FnTreeRefuse', WHERE WHAT IT READS IS OF BULK AT MOST 1048576: true; the input reads as it did. -/
def fnTreeRefuseUptoRow : OpenClaim := { program := "ytpobkmjicbobdaagreat", sum := "f95a8d3dbd1a20c308542918d001dc6f16266941b07cd882073761487b23634f", func := "loop.example/comptoir/laws.FnTreeRefuse", spec := "fnTreeRefuse", inPlace := ["internal/bytealg.abigen_runtime_cmpstring"], unfollowed := true, recurses := true, apart := false, narrowed := true }
def FnTreeRefuseUptoSaid : Prop := fnTreeRefuseUptoRow.holds Tryz.pinned (OpenSpec.upto fnTreeRefuseSpec)

/-- 'laws.FnTreeSnaps', WHERE WHAT IT READS IS OF BULK AT MOST 1048576: true; the input reads as it did. -/
def fnTreeSnapsUptoRow : OpenClaim := { program := "ytpobkmjicbobdaagreat", sum := "f95a8d3dbd1a20c308542918d001dc6f16266941b07cd882073761487b23634f", func := "loop.example/comptoir/laws.FnTreeSnaps", spec := "fnTreeSnaps", inPlace := ["internal/bytealg.abigen_runtime_cmpstring"], unfollowed := true, recurses := true, apart := false, narrowed := true }
def FnTreeSnapsUptoSaid : Prop := fnTreeSnapsUptoRow.holds Tryz.pinned (OpenSpec.upto fnTreeSnapsSpec)

/-- 'laws.FnTreeLast', WHERE WHAT IT READS IS OF BULK AT MOST 1048576: true; the input reads as it did. -/
def fnTreeLastUptoRow : OpenClaim := { program := "ytpobkmjicbobdaagreat", sum := "f95a8d3dbd1a20c308542918d001dc6f16266941b07cd882073761487b23634f", func := "loop.example/comptoir/laws.FnTreeLast", spec := "fnTreeLast", inPlace := ["internal/bytealg.abigen_runtime_cmpstring"], unfollowed := true, recurses := true, apart := false, narrowed := true }
def FnTreeLastUptoSaid : Prop := fnTreeLastUptoRow.holds Tryz.pinned (OpenSpec.upto fnTreeLastSpec)

/-- 'laws.FnTreeCell', WHERE WHAT IT READS IS OF BULK AT MOST 1048576: true; the input reads as it did. -/
def fnTreeCellUptoRow : OpenClaim := { program := "ytpobkmjicbobdaagreat", sum := "f95a8d3dbd1a20c308542918d001dc6f16266941b07cd882073761487b23634f", func := "loop.example/comptoir/laws.FnTreeCell", spec := "fnTreeCell", inPlace := ["internal/bytealg.abigen_runtime_cmpstring"], unfollowed := true, recurses := true, apart := false, narrowed := true }
def FnTreeCellUptoSaid : Prop := fnTreeCellUptoRow.holds Tryz.pinned (OpenSpec.upto fnTreeCellSpec)

/-- 'laws.FnTreeDrop', WHERE WHAT IT READS IS OF BULK AT MOST 1048576: true; the input reads as it did. -/
def fnTreeDropUptoRow : OpenClaim := { program := "ytpobkmjicbobdaagreat", sum := "f95a8d3dbd1a20c308542918d001dc6f16266941b07cd882073761487b23634f", func := "loop.example/comptoir/laws.FnTreeDrop", spec := "fnTreeDrop", inPlace := ["internal/bytealg.abigen_runtime_cmpstring"], unfollowed := true, recurses := true, apart := false, narrowed := true }
def FnTreeDropUptoSaid : Prop := fnTreeDropUptoRow.holds Tryz.pinned (OpenSpec.upto fnTreeDropSpec)

/-- 'laws.FnTreeFlush', WHERE WHAT IT READS IS OF BULK AT MOST 1048576: true; the input reads as it did. -/
def fnTreeFlushUptoRow : OpenClaim := { program := "ytpobkmjicbobdaagreat", sum := "f95a8d3dbd1a20c308542918d001dc6f16266941b07cd882073761487b23634f", func := "loop.example/comptoir/laws.FnTreeFlush", spec := "fnTreeFlush", inPlace := ["internal/bytealg.abigen_runtime_cmpstring"], unfollowed := true, recurses := true, apart := false, narrowed := true }
def FnTreeFlushUptoSaid : Prop := fnTreeFlushUptoRow.holds Tryz.pinned (OpenSpec.upto fnTreeFlushSpec)

/-- 'laws.FnTreeWrite', WHERE WHAT IT READS IS OF BULK AT MOST 1048576: true; the input reads as it did. -/
def fnTreeWriteUptoRow : OpenClaim := { program := "ytpobkmjicbobdaagreat", sum := "f95a8d3dbd1a20c308542918d001dc6f16266941b07cd882073761487b23634f", func := "loop.example/comptoir/laws.FnTreeWrite", spec := "fnTreeWrite", inPlace := ["internal/bytealg.abigen_runtime_cmpstring"], unfollowed := true, recurses := true, apart := false, narrowed := true }
def FnTreeWriteUptoSaid : Prop := fnTreeWriteUptoRow.holds Tryz.pinned (OpenSpec.upto fnTreeWriteSpec)

/-- 'laws.FnTreeCompact', WHERE WHAT IT READS IS OF BULK AT MOST 1048576: true; the input reads as it did. -/
def fnTreeCompactUptoRow : OpenClaim := { program := "ytpobkmjicbobdaagreat", sum := "f95a8d3dbd1a20c308542918d001dc6f16266941b07cd882073761487b23634f", func := "loop.example/comptoir/laws.FnTreeCompact", spec := "fnTreeCompact", inPlace := ["internal/bytealg.abigen_runtime_cmpstring"], unfollowed := true, recurses := true, apart := false, narrowed := true }
def FnTreeCompactUptoSaid : Prop := fnTreeCompactUptoRow.holds Tryz.pinned (OpenSpec.upto fnTreeCompactSpec)

/-- 'laws.FnTreeTwo', WHERE WHAT IT READS IS OF BULK AT MOST 1048576: true; the input reads as it did. -/
def fnTreeTwoUptoRow : OpenClaim := { program := "ytpobkmjicbobdaagreat", sum := "f95a8d3dbd1a20c308542918d001dc6f16266941b07cd882073761487b23634f", func := "loop.example/comptoir/laws.FnTreeTwo", spec := "fnTreeTwo", inPlace := ["internal/bytealg.abigen_runtime_cmpstring"], unfollowed := true, recurses := true, apart := false, narrowed := true }
def FnTreeTwoUptoSaid : Prop := fnTreeTwoUptoRow.holds Tryz.pinned (OpenSpec.upto fnTreeTwoSpec)

/-- 'laws.FnTreeSnap', WHERE WHAT IT READS IS OF BULK AT MOST 1048576: true; the input reads as it did. -/
def fnTreeSnapUptoRow : OpenClaim := { program := "ytpobkmjicbobdaagreat", sum := "f95a8d3dbd1a20c308542918d001dc6f16266941b07cd882073761487b23634f", func := "loop.example/comptoir/laws.FnTreeSnap", spec := "fnTreeSnap", inPlace := ["internal/bytealg.abigen_runtime_cmpstring"], unfollowed := true, recurses := true, apart := false, narrowed := true }
def FnTreeSnapUptoSaid : Prop := fnTreeSnapUptoRow.holds Tryz.pinned (OpenSpec.upto fnTreeSnapSpec)

end Rows
end Go.Proofs.YtpobkmjicbobdaaGreat
