/-
  No cell of these rows narrows 'for every input' (looked for: loops, veiled, ifaces, maps, wideKeys, modest, calm, conditions, laid).
  DERIVED. THE GIVEN ROWS OF THIS SEAT. 12 by the template 'for every input the law returns true; each argument reads behind the call as it read before'; 0 by the template 'total and deterministic' (their statements: YtpaknibaeieobaaTotals.lean).
  GIVEN WITH THE SEED: the statements are not yours to turn. If you find one false, say at which input.
  Laid BY PROGRAM, IN A SANDBOX (cutbox-rows.mjs): the forced cells as the released guide's own fill.sh prints them over the translation 8e5d7c95012fc73f… (all of the seat's roots in one cut). By AI agents, Wed Nov 11 2026. No macro, syntax, notation, axiom, sorry.
-/
import Derived.Test.YtpaknibaeieobaaChecked
import GoSem.Claim
import GoSem.ClaimJoined
import GoSem.ClaimMapViews
import Derived.JoinedTies
import Derived.KernelRfl
namespace Go.Proofs.Ytpaknibaeieobaa
/- THE CELL 'sum', in the pinned program and in every row, IS THE sha256 OF THE DUMP (.gsa) THAT YtpaknibaeieobaaProg.lean LOADS. Nothing in Lean hashes anything: it is a label: what it is worth is what the hold of that sum in a sandbox is worth. -/
noncomputable def Try.pinned : Pinned := { name := "ytpaknibaeieobaa", sum := "8e5d7c95012fc73fc016aad41a42b7c49b135cdfb3f58428a10d59e5b27cb37b", checked := Try.checked }
namespace Rows
def none {H : Type} : Left H := { results := [], args := [] }

/-- 'laws.FnExactKeyOk': WHATEVER THE INPUT: true; the input reads as it did. -/
def fnExactKeyOkSpec : ChangeSpec := { name := "fnExactKeyOk", fn := fun _ => fun
  | [d] => { results := [.lit (.bool true)], args := [d] }
  | _ => none }
def fnExactKeyOkRow : OpenClaim := { program := "ytpaknibaeieobaa", sum := "8e5d7c95012fc73fc016aad41a42b7c49b135cdfb3f58428a10d59e5b27cb37b", func := "loop.example/comptoir/laws.FnExactKeyOk", spec := "fnExactKeyOk", plainKeys := false, apart := false }
def FnExactKeyOkSaid : Prop := fnExactKeyOkRow.holds Try.pinned (OpenSpec.ofChange fnExactKeyOkSpec)

/-- ITS FALSE NEIGHBOUR: 'it returns false'. Refute it at one input. -/
def fnExactKeyOkWrong : ChangeSpec := { name := "fnExactKeyOk", fn := fun _ => fun
  | [d] => { results := [.lit (.bool false)], args := [d] }
  | _ => none }
def FnExactKeyOkWrongFalsely : Prop := fnExactKeyOkRow.holds Try.pinned (OpenSpec.ofChange fnExactKeyOkWrong)

/-- 'laws.FnExactEntryOk': WHATEVER THE INPUT: true; the input reads as it did. -/
def fnExactEntryOkSpec : ChangeSpec := { name := "fnExactEntryOk", fn := fun _ => fun
  | [d] => { results := [.lit (.bool true)], args := [d] }
  | _ => none }
def fnExactEntryOkRow : OpenClaim := { program := "ytpaknibaeieobaa", sum := "8e5d7c95012fc73fc016aad41a42b7c49b135cdfb3f58428a10d59e5b27cb37b", func := "loop.example/comptoir/laws.FnExactEntryOk", spec := "fnExactEntryOk", unfollowed := true, recurses := true, plainKeys := false, apart := false }
def FnExactEntryOkSaid : Prop := fnExactEntryOkRow.holds Try.pinned (OpenSpec.ofChange fnExactEntryOkSpec)

/-- ITS FALSE NEIGHBOUR: 'it returns false'. Refute it at one input. -/
def fnExactEntryOkWrong : ChangeSpec := { name := "fnExactEntryOk", fn := fun _ => fun
  | [d] => { results := [.lit (.bool false)], args := [d] }
  | _ => none }
def FnExactEntryOkWrongFalsely : Prop := fnExactEntryOkRow.holds Try.pinned (OpenSpec.ofChange fnExactEntryOkWrong)

/-- 'laws.FnExactEntryLess': WHATEVER THE INPUT: true; the input reads as it did. -/
def fnExactEntryLessSpec : ChangeSpec := { name := "fnExactEntryLess", fn := fun _ => fun
  | [d1, d2] => { results := [.lit (.bool true)], args := [d1, d2] }
  | _ => none }
def fnExactEntryLessRow : OpenClaim := { program := "ytpaknibaeieobaa", sum := "8e5d7c95012fc73fc016aad41a42b7c49b135cdfb3f58428a10d59e5b27cb37b", func := "loop.example/comptoir/laws.FnExactEntryLess", spec := "fnExactEntryLess", inPlace := ["internal/bytealg.abigen_runtime_cmpstring"], plainKeys := false, apart := false }
def FnExactEntryLessSaid : Prop := fnExactEntryLessRow.holds Try.pinned (OpenSpec.ofChange fnExactEntryLessSpec)

/-- ITS FALSE NEIGHBOUR: 'it returns false'. Refute it at one input. -/
def fnExactEntryLessWrong : ChangeSpec := { name := "fnExactEntryLess", fn := fun _ => fun
  | [d1, d2] => { results := [.lit (.bool false)], args := [d1, d2] }
  | _ => none }
def FnExactEntryLessWrongFalsely : Prop := fnExactEntryLessRow.holds Try.pinned (OpenSpec.ofChange fnExactEntryLessWrong)

/-- 'laws.FnExactCellDo': WHATEVER THE INPUT: true; the input reads as it did. -/
def fnExactCellDoSpec : ChangeSpec := { name := "fnExactCellDo", fn := fun _ => fun
  | [d1, d2] => { results := [.lit (.bool true)], args := [d1, d2] }
  | _ => none }
def fnExactCellDoRow : OpenClaim := { program := "ytpaknibaeieobaa", sum := "8e5d7c95012fc73fc016aad41a42b7c49b135cdfb3f58428a10d59e5b27cb37b", func := "loop.example/comptoir/laws.FnExactCellDo", spec := "fnExactCellDo", unfollowed := true, recurses := true, plainKeys := false, apart := false }
def FnExactCellDoSaid : Prop := fnExactCellDoRow.holds Try.pinned (OpenSpec.ofChange fnExactCellDoSpec)

/-- ITS FALSE NEIGHBOUR: 'it returns false'. Refute it at one input. -/
def fnExactCellDoWrong : ChangeSpec := { name := "fnExactCellDo", fn := fun _ => fun
  | [d1, d2] => { results := [.lit (.bool false)], args := [d1, d2] }
  | _ => none }
def FnExactCellDoWrongFalsely : Prop := fnExactCellDoRow.holds Try.pinned (OpenSpec.ofChange fnExactCellDoWrong)

/-- 'laws.FnExactCellAll': WHATEVER THE INPUT: true; the input reads as it did. -/
def fnExactCellAllSpec : ChangeSpec := { name := "fnExactCellAll", fn := fun _ => fun
  | [d1, d2, d3] => { results := [.lit (.bool true)], args := [d1, d2, d3] }
  | _ => none }
def fnExactCellAllRow : OpenClaim := { program := "ytpaknibaeieobaa", sum := "8e5d7c95012fc73fc016aad41a42b7c49b135cdfb3f58428a10d59e5b27cb37b", func := "loop.example/comptoir/laws.FnExactCellAll", spec := "fnExactCellAll", unfollowed := true, recurses := true, plainKeys := false, apart := false }
def FnExactCellAllSaid : Prop := fnExactCellAllRow.holds Try.pinned (OpenSpec.ofChange fnExactCellAllSpec)

/-- ITS FALSE NEIGHBOUR: 'it returns false'. Refute it at one input. -/
def fnExactCellAllWrong : ChangeSpec := { name := "fnExactCellAll", fn := fun _ => fun
  | [d1, d2, d3] => { results := [.lit (.bool false)], args := [d1, d2, d3] }
  | _ => none }
def FnExactCellAllWrongFalsely : Prop := fnExactCellAllRow.holds Try.pinned (OpenSpec.ofChange fnExactCellAllWrong)

/-- 'laws.FnExactKeyId': WHATEVER THE INPUT: true; the input reads as it did. -/
def fnExactKeyIdSpec : ChangeSpec := { name := "fnExactKeyId", fn := fun _ => fun
  | [d] => { results := [.lit (.bool true)], args := [d] }
  | _ => none }
def fnExactKeyIdRow : OpenClaim := { program := "ytpaknibaeieobaa", sum := "8e5d7c95012fc73fc016aad41a42b7c49b135cdfb3f58428a10d59e5b27cb37b", func := "loop.example/comptoir/laws.FnExactKeyId", spec := "fnExactKeyId", inPlace := ["internal/abi.NoEscape"], recurses := true, plainKeys := false, apart := false }
def FnExactKeyIdSaid : Prop := fnExactKeyIdRow.holds Try.pinned (OpenSpec.ofChange fnExactKeyIdSpec)

/-- ITS FALSE NEIGHBOUR: 'it returns false'. Refute it at one input. -/
def fnExactKeyIdWrong : ChangeSpec := { name := "fnExactKeyId", fn := fun _ => fun
  | [d] => { results := [.lit (.bool false)], args := [d] }
  | _ => none }
def FnExactKeyIdWrongFalsely : Prop := fnExactKeyIdRow.holds Try.pinned (OpenSpec.ofChange fnExactKeyIdWrong)

/-- 'laws.FnExactKeyLog': WHATEVER THE INPUT: true; the input reads as it did. -/
def fnExactKeyLogSpec : ChangeSpec := { name := "fnExactKeyLog", fn := fun _ => fun
  | [d] => { results := [.lit (.bool true)], args := [d] }
  | _ => none }
def fnExactKeyLogRow : OpenClaim := { program := "ytpaknibaeieobaa", sum := "8e5d7c95012fc73fc016aad41a42b7c49b135cdfb3f58428a10d59e5b27cb37b", func := "loop.example/comptoir/laws.FnExactKeyLog", spec := "fnExactKeyLog", inPlace := ["internal/abi.NoEscape"], recurses := true, plainKeys := false, apart := false }
def FnExactKeyLogSaid : Prop := fnExactKeyLogRow.holds Try.pinned (OpenSpec.ofChange fnExactKeyLogSpec)

/-- ITS FALSE NEIGHBOUR: 'it returns false'. Refute it at one input. -/
def fnExactKeyLogWrong : ChangeSpec := { name := "fnExactKeyLog", fn := fun _ => fun
  | [d] => { results := [.lit (.bool false)], args := [d] }
  | _ => none }
def FnExactKeyLogWrongFalsely : Prop := fnExactKeyLogRow.holds Try.pinned (OpenSpec.ofChange fnExactKeyLogWrong)

/-- 'laws.FnExactBookBal': WHATEVER THE INPUT: true; the input reads as it did. -/
def fnExactBookBalSpec : ChangeSpec := { name := "fnExactBookBal", fn := fun _ => fun
  | [d1, d2, d3] => { results := [.lit (.bool true)], args := [d1, d2, d3] }
  | _ => none }
def fnExactBookBalRow : OpenClaim := { program := "ytpaknibaeieobaa", sum := "8e5d7c95012fc73fc016aad41a42b7c49b135cdfb3f58428a10d59e5b27cb37b", func := "loop.example/comptoir/laws.FnExactBookBal", spec := "fnExactBookBal", inPlace := ["slices.overlaps[string]"], unfollowed := true, recurses := true, plainKeys := false, apart := false }
def FnExactBookBalSaid : Prop := fnExactBookBalRow.holds Try.pinned (OpenSpec.ofChange fnExactBookBalSpec)

/-- ITS FALSE NEIGHBOUR: 'it returns false'. Refute it at one input. -/
def fnExactBookBalWrong : ChangeSpec := { name := "fnExactBookBal", fn := fun _ => fun
  | [d1, d2, d3] => { results := [.lit (.bool false)], args := [d1, d2, d3] }
  | _ => none }
def FnExactBookBalWrongFalsely : Prop := fnExactBookBalRow.holds Try.pinned (OpenSpec.ofChange fnExactBookBalWrong)

/-- 'laws.FnExactBookSides': WHATEVER THE INPUT: true; the input reads as it did. -/
def fnExactBookSidesSpec : ChangeSpec := { name := "fnExactBookSides", fn := fun _ => fun
  | [d1, d2] => { results := [.lit (.bool true)], args := [d1, d2] }
  | _ => none }
def fnExactBookSidesRow : OpenClaim := { program := "ytpaknibaeieobaa", sum := "8e5d7c95012fc73fc016aad41a42b7c49b135cdfb3f58428a10d59e5b27cb37b", func := "loop.example/comptoir/laws.FnExactBookSides", spec := "fnExactBookSides", inPlace := ["slices.overlaps[string]"], unfollowed := true, recurses := true, plainKeys := false, apart := false }
def FnExactBookSidesSaid : Prop := fnExactBookSidesRow.holds Try.pinned (OpenSpec.ofChange fnExactBookSidesSpec)

/-- ITS FALSE NEIGHBOUR: 'it returns false'. Refute it at one input. -/
def fnExactBookSidesWrong : ChangeSpec := { name := "fnExactBookSides", fn := fun _ => fun
  | [d1, d2] => { results := [.lit (.bool false)], args := [d1, d2] }
  | _ => none }
def FnExactBookSidesWrongFalsely : Prop := fnExactBookSidesRow.holds Try.pinned (OpenSpec.ofChange fnExactBookSidesWrong)

/-- 'laws.FnExactBookAccts': WHATEVER THE INPUT: true; the input reads as it did. -/
def fnExactBookAcctsSpec : ChangeSpec := { name := "fnExactBookAccts", fn := fun _ => fun
  | [d] => { results := [.lit (.bool true)], args := [d] }
  | _ => none }
def fnExactBookAcctsRow : OpenClaim := { program := "ytpaknibaeieobaa", sum := "8e5d7c95012fc73fc016aad41a42b7c49b135cdfb3f58428a10d59e5b27cb37b", func := "loop.example/comptoir/laws.FnExactBookAccts", spec := "fnExactBookAccts", inPlace := ["slices.overlaps[string]"], unfollowed := true, recurses := true, plainKeys := false, apart := false }
def FnExactBookAcctsSaid : Prop := fnExactBookAcctsRow.holds Try.pinned (OpenSpec.ofChange fnExactBookAcctsSpec)

/-- ITS FALSE NEIGHBOUR: 'it returns false'. Refute it at one input. -/
def fnExactBookAcctsWrong : ChangeSpec := { name := "fnExactBookAccts", fn := fun _ => fun
  | [d] => { results := [.lit (.bool false)], args := [d] }
  | _ => none }
def FnExactBookAcctsWrongFalsely : Prop := fnExactBookAcctsRow.holds Try.pinned (OpenSpec.ofChange fnExactBookAcctsWrong)

/-- 'laws.FnCellDo': WHATEVER THE INPUT: true; the input reads as it did. -/
def fnCellDoSpec : ChangeSpec := { name := "fnCellDo", fn := fun _ => fun
  | [d1, d2] => { results := [.lit (.bool true)], args := [d1, d2] }
  | _ => none }
def fnCellDoRow : OpenClaim := { program := "ytpaknibaeieobaa", sum := "8e5d7c95012fc73fc016aad41a42b7c49b135cdfb3f58428a10d59e5b27cb37b", func := "loop.example/comptoir/laws.FnCellDo", spec := "fnCellDo", unfollowed := true, recurses := true, plainKeys := false, apart := false }
def FnCellDoSaid : Prop := fnCellDoRow.holds Try.pinned (OpenSpec.ofChange fnCellDoSpec)

/-- ITS FALSE NEIGHBOUR: 'it returns false'. Refute it at one input. -/
def fnCellDoWrong : ChangeSpec := { name := "fnCellDo", fn := fun _ => fun
  | [d1, d2] => { results := [.lit (.bool false)], args := [d1, d2] }
  | _ => none }
def FnCellDoWrongFalsely : Prop := fnCellDoRow.holds Try.pinned (OpenSpec.ofChange fnCellDoWrong)

/-- 'laws.FnEntryLess': WHATEVER THE INPUT: true; the input reads as it did. -/
def fnEntryLessSpec : ChangeSpec := { name := "fnEntryLess", fn := fun _ => fun
  | [d1, d2] => { results := [.lit (.bool true)], args := [d1, d2] }
  | _ => none }
def fnEntryLessRow : OpenClaim := { program := "ytpaknibaeieobaa", sum := "8e5d7c95012fc73fc016aad41a42b7c49b135cdfb3f58428a10d59e5b27cb37b", func := "loop.example/comptoir/laws.FnEntryLess", spec := "fnEntryLess", inPlace := ["internal/bytealg.abigen_runtime_cmpstring"], plainKeys := false, apart := false }
def FnEntryLessSaid : Prop := fnEntryLessRow.holds Try.pinned (OpenSpec.ofChange fnEntryLessSpec)

/-- ITS FALSE NEIGHBOUR: 'it returns false'. Refute it at one input. -/
def fnEntryLessWrong : ChangeSpec := { name := "fnEntryLess", fn := fun _ => fun
  | [d1, d2] => { results := [.lit (.bool false)], args := [d1, d2] }
  | _ => none }
def FnEntryLessWrongFalsely : Prop := fnEntryLessRow.holds Try.pinned (OpenSpec.ofChange fnEntryLessWrong)

/- THE SECOND FORM. 'bulk': how many values and letters a reading holds, each counted each time it is reached (what is shared counts as often as it is met; a slice's spare places count too). A statement '..UptoSaid' is the law's where the arguments, and the package variables that the reading takes, are together of bulk at most 1048576: NARROWER than '..Said'. Prove '..Said' where nothing that the law and all that it calls make is longer than what came in: it says more and counts as full. Else prove '..UptoSaid'. A law counts once. -/
mutual
def uptoBulk {H : Type} : DataW H → Nat
  | .lit (.string bytes) => bytes.length + 1
  | .lit _ => 1
  | .nil => 1
  | .ptr d => uptoBulk d + 1
  | .slice elems spare => uptoBulkAll elems + uptoBulkAll spare + 1
  | .agg parts => uptoBulkAll parts + 1
  | .iface _ d => uptoBulk d + 1
  | .map entries => uptoBulkEntries entries + 1
  | .held _ => 1
def uptoBulkAll {H : Type} : List (DataW H) → Nat
  | [] => 0
  | d :: r => uptoBulk d + uptoBulkAll r
def uptoBulkEntries {H : Type} : List (Lit × DataW H) → Nat
  | [] => 0
  | x :: r => uptoBulkEntry x + uptoBulkEntries r
def uptoBulkEntry {H : Type} : Lit × DataW H → Nat
  | (.string bytes, d) => bytes.length + uptoBulk d + 1
  | (_, d) => uptoBulk d + 1
 end
def uptoSmall : (H : Type) → List (DataW H) → Bool := fun _ ds => decide (uptoBulkAll ds ≤ 1048576)
def OpenSpec.upto (s : _root_.Go.ChangeSpec) : _root_.Go.OpenSpec := { _root_.Go.OpenSpec.ofChange s with cond := some uptoSmall }

/-- 'laws.FnExactKeyOk', WHERE WHAT IT READS IS OF BULK AT MOST 1048576: true; the input reads as it did. -/
def fnExactKeyOkUptoRow : OpenClaim := { program := "ytpaknibaeieobaa", sum := "8e5d7c95012fc73fc016aad41a42b7c49b135cdfb3f58428a10d59e5b27cb37b", func := "loop.example/comptoir/laws.FnExactKeyOk", spec := "fnExactKeyOk", plainKeys := false, apart := false, narrowed := true }
def FnExactKeyOkUptoSaid : Prop := fnExactKeyOkUptoRow.holds Try.pinned (OpenSpec.upto fnExactKeyOkSpec)

/-- 'laws.FnExactEntryOk', WHERE WHAT IT READS IS OF BULK AT MOST 1048576: true; the input reads as it did. -/
def fnExactEntryOkUptoRow : OpenClaim := { program := "ytpaknibaeieobaa", sum := "8e5d7c95012fc73fc016aad41a42b7c49b135cdfb3f58428a10d59e5b27cb37b", func := "loop.example/comptoir/laws.FnExactEntryOk", spec := "fnExactEntryOk", unfollowed := true, recurses := true, plainKeys := false, apart := false, narrowed := true }
def FnExactEntryOkUptoSaid : Prop := fnExactEntryOkUptoRow.holds Try.pinned (OpenSpec.upto fnExactEntryOkSpec)

/-- 'laws.FnExactEntryLess', WHERE WHAT IT READS IS OF BULK AT MOST 1048576: true; the input reads as it did. -/
def fnExactEntryLessUptoRow : OpenClaim := { program := "ytpaknibaeieobaa", sum := "8e5d7c95012fc73fc016aad41a42b7c49b135cdfb3f58428a10d59e5b27cb37b", func := "loop.example/comptoir/laws.FnExactEntryLess", spec := "fnExactEntryLess", inPlace := ["internal/bytealg.abigen_runtime_cmpstring"], plainKeys := false, apart := false, narrowed := true }
def FnExactEntryLessUptoSaid : Prop := fnExactEntryLessUptoRow.holds Try.pinned (OpenSpec.upto fnExactEntryLessSpec)

/-- 'laws.FnExactCellDo', WHERE WHAT IT READS IS OF BULK AT MOST 1048576: true; the input reads as it did. -/
def fnExactCellDoUptoRow : OpenClaim := { program := "ytpaknibaeieobaa", sum := "8e5d7c95012fc73fc016aad41a42b7c49b135cdfb3f58428a10d59e5b27cb37b", func := "loop.example/comptoir/laws.FnExactCellDo", spec := "fnExactCellDo", unfollowed := true, recurses := true, plainKeys := false, apart := false, narrowed := true }
def FnExactCellDoUptoSaid : Prop := fnExactCellDoUptoRow.holds Try.pinned (OpenSpec.upto fnExactCellDoSpec)

/-- 'laws.FnExactCellAll', WHERE WHAT IT READS IS OF BULK AT MOST 1048576: true; the input reads as it did. -/
def fnExactCellAllUptoRow : OpenClaim := { program := "ytpaknibaeieobaa", sum := "8e5d7c95012fc73fc016aad41a42b7c49b135cdfb3f58428a10d59e5b27cb37b", func := "loop.example/comptoir/laws.FnExactCellAll", spec := "fnExactCellAll", unfollowed := true, recurses := true, plainKeys := false, apart := false, narrowed := true }
def FnExactCellAllUptoSaid : Prop := fnExactCellAllUptoRow.holds Try.pinned (OpenSpec.upto fnExactCellAllSpec)

/-- 'laws.FnExactKeyId', WHERE WHAT IT READS IS OF BULK AT MOST 1048576: true; the input reads as it did. -/
def fnExactKeyIdUptoRow : OpenClaim := { program := "ytpaknibaeieobaa", sum := "8e5d7c95012fc73fc016aad41a42b7c49b135cdfb3f58428a10d59e5b27cb37b", func := "loop.example/comptoir/laws.FnExactKeyId", spec := "fnExactKeyId", inPlace := ["internal/abi.NoEscape"], recurses := true, plainKeys := false, apart := false, narrowed := true }
def FnExactKeyIdUptoSaid : Prop := fnExactKeyIdUptoRow.holds Try.pinned (OpenSpec.upto fnExactKeyIdSpec)

/-- 'laws.FnExactKeyLog', WHERE WHAT IT READS IS OF BULK AT MOST 1048576: true; the input reads as it did. -/
def fnExactKeyLogUptoRow : OpenClaim := { program := "ytpaknibaeieobaa", sum := "8e5d7c95012fc73fc016aad41a42b7c49b135cdfb3f58428a10d59e5b27cb37b", func := "loop.example/comptoir/laws.FnExactKeyLog", spec := "fnExactKeyLog", inPlace := ["internal/abi.NoEscape"], recurses := true, plainKeys := false, apart := false, narrowed := true }
def FnExactKeyLogUptoSaid : Prop := fnExactKeyLogUptoRow.holds Try.pinned (OpenSpec.upto fnExactKeyLogSpec)

/-- 'laws.FnExactBookBal', WHERE WHAT IT READS IS OF BULK AT MOST 1048576: true; the input reads as it did. -/
def fnExactBookBalUptoRow : OpenClaim := { program := "ytpaknibaeieobaa", sum := "8e5d7c95012fc73fc016aad41a42b7c49b135cdfb3f58428a10d59e5b27cb37b", func := "loop.example/comptoir/laws.FnExactBookBal", spec := "fnExactBookBal", inPlace := ["slices.overlaps[string]"], unfollowed := true, recurses := true, plainKeys := false, apart := false, narrowed := true }
def FnExactBookBalUptoSaid : Prop := fnExactBookBalUptoRow.holds Try.pinned (OpenSpec.upto fnExactBookBalSpec)

/-- 'laws.FnExactBookSides', WHERE WHAT IT READS IS OF BULK AT MOST 1048576: true; the input reads as it did. -/
def fnExactBookSidesUptoRow : OpenClaim := { program := "ytpaknibaeieobaa", sum := "8e5d7c95012fc73fc016aad41a42b7c49b135cdfb3f58428a10d59e5b27cb37b", func := "loop.example/comptoir/laws.FnExactBookSides", spec := "fnExactBookSides", inPlace := ["slices.overlaps[string]"], unfollowed := true, recurses := true, plainKeys := false, apart := false, narrowed := true }
def FnExactBookSidesUptoSaid : Prop := fnExactBookSidesUptoRow.holds Try.pinned (OpenSpec.upto fnExactBookSidesSpec)

/-- 'laws.FnExactBookAccts', WHERE WHAT IT READS IS OF BULK AT MOST 1048576: true; the input reads as it did. -/
def fnExactBookAcctsUptoRow : OpenClaim := { program := "ytpaknibaeieobaa", sum := "8e5d7c95012fc73fc016aad41a42b7c49b135cdfb3f58428a10d59e5b27cb37b", func := "loop.example/comptoir/laws.FnExactBookAccts", spec := "fnExactBookAccts", inPlace := ["slices.overlaps[string]"], unfollowed := true, recurses := true, plainKeys := false, apart := false, narrowed := true }
def FnExactBookAcctsUptoSaid : Prop := fnExactBookAcctsUptoRow.holds Try.pinned (OpenSpec.upto fnExactBookAcctsSpec)

/-- 'laws.FnCellDo', WHERE WHAT IT READS IS OF BULK AT MOST 1048576: true; the input reads as it did. -/
def fnCellDoUptoRow : OpenClaim := { program := "ytpaknibaeieobaa", sum := "8e5d7c95012fc73fc016aad41a42b7c49b135cdfb3f58428a10d59e5b27cb37b", func := "loop.example/comptoir/laws.FnCellDo", spec := "fnCellDo", unfollowed := true, recurses := true, plainKeys := false, apart := false, narrowed := true }
def FnCellDoUptoSaid : Prop := fnCellDoUptoRow.holds Try.pinned (OpenSpec.upto fnCellDoSpec)

/-- 'laws.FnEntryLess', WHERE WHAT IT READS IS OF BULK AT MOST 1048576: true; the input reads as it did. -/
def fnEntryLessUptoRow : OpenClaim := { program := "ytpaknibaeieobaa", sum := "8e5d7c95012fc73fc016aad41a42b7c49b135cdfb3f58428a10d59e5b27cb37b", func := "loop.example/comptoir/laws.FnEntryLess", spec := "fnEntryLess", inPlace := ["internal/bytealg.abigen_runtime_cmpstring"], plainKeys := false, apart := false, narrowed := true }
def FnEntryLessUptoSaid : Prop := fnEntryLessUptoRow.holds Try.pinned (OpenSpec.upto fnEntryLessSpec)

end Rows
end Go.Proofs.Ytpaknibaeieobaa
