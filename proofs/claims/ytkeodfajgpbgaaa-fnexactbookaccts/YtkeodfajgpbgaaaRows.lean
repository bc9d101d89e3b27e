/-
  No cell of these rows narrows 'for every input' (looked for: loops, veiled, ifaces, maps, wideKeys, modest, calm, conditions, laid).
  DERIVED. THE GIVEN ROWS OF THIS SEAT. 9 by the template 'for every input the law returns true; each argument reads behind the call as it read before'; 0 by the template 'total and deterministic' (their statements: YtkeodfajgpbgaaaTotals.lean).
  GIVEN WITH THE SEED: the statements are not yours to turn. If you find one false, say at which input.
  Laid BY PROGRAM, IN A SANDBOX (cutbox-rows.mjs): the forced cells as the released guide's own fill.sh prints them over the translation 5618cbc7e9a9fdb2… (all of the seat's roots in one cut). By AI agents, Wed Nov 11 2026. No macro, syntax, notation, axiom, sorry.
-/
import Derived.Test.YtkeodfajgpbgaaaChecked
import GoSem.Claim
import GoSem.ClaimJoined
import GoSem.ClaimMapViews
import Derived.JoinedTies
import Derived.KernelRfl
namespace Go.Proofs.Ytkeodfajgpbgaaa
/- THE CELL 'sum', in the pinned program and in every row, IS THE sha256 OF THE DUMP (.gsa) THAT YtkeodfajgpbgaaaProg.lean LOADS. Nothing in Lean hashes anything: it is a label: what it is worth is what the hold of that sum in a sandbox is worth. -/
noncomputable def Try.pinned : Pinned := { name := "ytkeodfajgpbgaaa", sum := "5618cbc7e9a9fdb236c678e2aef8c7da9d90dc37efe4dcc437fe60b980bfb5c6", checked := Try.checked }
namespace Rows
def none {H : Type} : Left H := { results := [], args := [] }

/-- 'laws.FnExactTreeOk': WHATEVER THE INPUT: true; the input reads as it did. -/
def fnExactTreeOkSpec : ChangeSpec := { name := "fnExactTreeOk", fn := fun _ => fun
  | [d] => { results := [.lit (.bool true)], args := [d] }
  | _ => none }
def fnExactTreeOkRow : OpenClaim := { program := "ytkeodfajgpbgaaa", sum := "5618cbc7e9a9fdb236c678e2aef8c7da9d90dc37efe4dcc437fe60b980bfb5c6", func := "loop.example/comptoir/laws.FnExactTreeOk", spec := "fnExactTreeOk", inPlace := ["internal/bytealg.abigen_runtime_cmpstring"], unfollowed := true, recurses := true, plainKeys := false, apart := false }
def FnExactTreeOkSaid : Prop := fnExactTreeOkRow.holds Try.pinned (OpenSpec.ofChange fnExactTreeOkSpec)

/-- ITS FALSE NEIGHBOUR: 'it returns false'. Refute it at one input. -/
def fnExactTreeOkWrong : ChangeSpec := { name := "fnExactTreeOk", fn := fun _ => fun
  | [d] => { results := [.lit (.bool false)], args := [d] }
  | _ => none }
def FnExactTreeOkWrongFalsely : Prop := fnExactTreeOkRow.holds Try.pinned (OpenSpec.ofChange fnExactTreeOkWrong)

/-- 'laws.FnExactStoreNew': WHATEVER THE INPUT: true; the input reads as it did. -/
def fnExactStoreNewSpec : ChangeSpec := { name := "fnExactStoreNew", fn := fun _ => fun
  | [] => { results := [.lit (.bool true)], args := [] }
  | _ => none }
def fnExactStoreNewRow : OpenClaim := { program := "ytkeodfajgpbgaaa", sum := "5618cbc7e9a9fdb236c678e2aef8c7da9d90dc37efe4dcc437fe60b980bfb5c6", func := "loop.example/comptoir/laws.FnExactStoreNew", spec := "fnExactStoreNew", plainKeys := false, apart := false }
def FnExactStoreNewSaid : Prop := fnExactStoreNewRow.holds Try.pinned (OpenSpec.ofChange fnExactStoreNewSpec)

/-- ITS FALSE NEIGHBOUR: 'it returns false'. Refute it at one input. -/
def fnExactStoreNewWrong : ChangeSpec := { name := "fnExactStoreNew", fn := fun _ => fun
  | [] => { results := [.lit (.bool false)], args := [] }
  | _ => none }
def FnExactStoreNewWrongFalsely : Prop := fnExactStoreNewRow.holds Try.pinned (OpenSpec.ofChange fnExactStoreNewWrong)

/-- 'laws.FnExactStoreSame': WHATEVER THE INPUT: true; the input reads as it did. -/
def fnExactStoreSameSpec : ChangeSpec := { name := "fnExactStoreSame", fn := fun _ => fun
  | [d1, d2] => { results := [.lit (.bool true)], args := [d1, d2] }
  | _ => none }
def fnExactStoreSameRow : OpenClaim := { program := "ytkeodfajgpbgaaa", sum := "5618cbc7e9a9fdb236c678e2aef8c7da9d90dc37efe4dcc437fe60b980bfb5c6", func := "loop.example/comptoir/laws.FnExactStoreSame", spec := "fnExactStoreSame", unfollowed := true, recurses := true, plainKeys := false, apart := false }
def FnExactStoreSameSaid : Prop := fnExactStoreSameRow.holds Try.pinned (OpenSpec.ofChange fnExactStoreSameSpec)

/-- ITS FALSE NEIGHBOUR: 'it returns false'. Refute it at one input. -/
def fnExactStoreSameWrong : ChangeSpec := { name := "fnExactStoreSame", fn := fun _ => fun
  | [d1, d2] => { results := [.lit (.bool false)], args := [d1, d2] }
  | _ => none }
def FnExactStoreSameWrongFalsely : Prop := fnExactStoreSameRow.holds Try.pinned (OpenSpec.ofChange fnExactStoreSameWrong)

/-- 'laws.FnExactBookAccts': WHATEVER THE INPUT: true; the input reads as it did. -/
def fnExactBookAcctsSpec : ChangeSpec := { name := "fnExactBookAccts", fn := fun _ => fun
  | [d] => { results := [.lit (.bool true)], args := [d] }
  | _ => none }
def fnExactBookAcctsRow : OpenClaim := { program := "ytkeodfajgpbgaaa", sum := "5618cbc7e9a9fdb236c678e2aef8c7da9d90dc37efe4dcc437fe60b980bfb5c6", func := "loop.example/comptoir/laws.FnExactBookAccts", spec := "fnExactBookAccts", inPlace := ["slices.overlaps[string]"], unfollowed := true, recurses := true, plainKeys := false, apart := false }
def FnExactBookAcctsSaid : Prop := fnExactBookAcctsRow.holds Try.pinned (OpenSpec.ofChange fnExactBookAcctsSpec)

/-- ITS FALSE NEIGHBOUR: 'it returns false'. Refute it at one input. -/
def fnExactBookAcctsWrong : ChangeSpec := { name := "fnExactBookAccts", fn := fun _ => fun
  | [d] => { results := [.lit (.bool false)], args := [d] }
  | _ => none }
def FnExactBookAcctsWrongFalsely : Prop := fnExactBookAcctsRow.holds Try.pinned (OpenSpec.ofChange fnExactBookAcctsWrong)

/-- 'laws.FnPostBent': WHATEVER THE INPUT: true; the input reads as it did. -/
def fnPostBentSpec : ChangeSpec := { name := "fnPostBent", fn := fun _ => fun
  | [d] => { results := [.lit (.bool true)], args := [d] }
  | _ => none }
def fnPostBentRow : OpenClaim := { program := "ytkeodfajgpbgaaa", sum := "5618cbc7e9a9fdb236c678e2aef8c7da9d90dc37efe4dcc437fe60b980bfb5c6", func := "loop.example/comptoir/laws.FnPostBent", spec := "fnPostBent", plainKeys := false, apart := false }
def FnPostBentSaid : Prop := fnPostBentRow.holds Try.pinned (OpenSpec.ofChange fnPostBentSpec)

/-- ITS FALSE NEIGHBOUR: 'it returns false'. Refute it at one input. -/
def fnPostBentWrong : ChangeSpec := { name := "fnPostBent", fn := fun _ => fun
  | [d] => { results := [.lit (.bool false)], args := [d] }
  | _ => none }
def FnPostBentWrongFalsely : Prop := fnPostBentRow.holds Try.pinned (OpenSpec.ofChange fnPostBentWrong)

/-- 'laws.FnExactSquash': WHATEVER THE INPUT: true; the input reads as it did. -/
def fnExactSquashSpec : ChangeSpec := { name := "fnExactSquash", fn := fun _ => fun
  | [d1, d2, d3] => { results := [.lit (.bool true)], args := [d1, d2, d3] }
  | _ => none }
def fnExactSquashRow : OpenClaim := { program := "ytkeodfajgpbgaaa", sum := "5618cbc7e9a9fdb236c678e2aef8c7da9d90dc37efe4dcc437fe60b980bfb5c6", func := "loop.example/comptoir/laws.FnExactSquash", spec := "fnExactSquash", inPlace := ["internal/bytealg.abigen_runtime_cmpstring"], unfollowed := true, recurses := true, plainKeys := false, apart := false }
def FnExactSquashSaid : Prop := fnExactSquashRow.holds Try.pinned (OpenSpec.ofChange fnExactSquashSpec)

/-- ITS FALSE NEIGHBOUR: 'it returns false'. Refute it at one input. -/
def fnExactSquashWrong : ChangeSpec := { name := "fnExactSquash", fn := fun _ => fun
  | [d1, d2, d3] => { results := [.lit (.bool false)], args := [d1, d2, d3] }
  | _ => none }
def FnExactSquashWrongFalsely : Prop := fnExactSquashRow.holds Try.pinned (OpenSpec.ofChange fnExactSquashWrong)

/-- 'laws.FnExactMergeAll': WHATEVER THE INPUT: true; the input reads as it did. -/
def fnExactMergeAllSpec : ChangeSpec := { name := "fnExactMergeAll", fn := fun _ => fun
  | [d] => { results := [.lit (.bool true)], args := [d] }
  | _ => none }
def fnExactMergeAllRow : OpenClaim := { program := "ytkeodfajgpbgaaa", sum := "5618cbc7e9a9fdb236c678e2aef8c7da9d90dc37efe4dcc437fe60b980bfb5c6", func := "loop.example/comptoir/laws.FnExactMergeAll", spec := "fnExactMergeAll", inPlace := ["internal/bytealg.abigen_runtime_cmpstring"], unfollowed := true, recurses := true, plainKeys := false, apart := false }
def FnExactMergeAllSaid : Prop := fnExactMergeAllRow.holds Try.pinned (OpenSpec.ofChange fnExactMergeAllSpec)

/-- ITS FALSE NEIGHBOUR: 'it returns false'. Refute it at one input. -/
def fnExactMergeAllWrong : ChangeSpec := { name := "fnExactMergeAll", fn := fun _ => fun
  | [d] => { results := [.lit (.bool false)], args := [d] }
  | _ => none }
def FnExactMergeAllWrongFalsely : Prop := fnExactMergeAllRow.holds Try.pinned (OpenSpec.ofChange fnExactMergeAllWrong)

/-- 'laws.FnExactCellAll': WHATEVER THE INPUT: true; the input reads as it did. -/
def fnExactCellAllSpec : ChangeSpec := { name := "fnExactCellAll", fn := fun _ => fun
  | [d1, d2, d3] => { results := [.lit (.bool true)], args := [d1, d2, d3] }
  | _ => none }
def fnExactCellAllRow : OpenClaim := { program := "ytkeodfajgpbgaaa", sum := "5618cbc7e9a9fdb236c678e2aef8c7da9d90dc37efe4dcc437fe60b980bfb5c6", func := "loop.example/comptoir/laws.FnExactCellAll", spec := "fnExactCellAll", unfollowed := true, recurses := true, plainKeys := false, apart := false }
def FnExactCellAllSaid : Prop := fnExactCellAllRow.holds Try.pinned (OpenSpec.ofChange fnExactCellAllSpec)

/-- ITS FALSE NEIGHBOUR: 'it returns false'. Refute it at one input. -/
def fnExactCellAllWrong : ChangeSpec := { name := "fnExactCellAll", fn := fun _ => fun
  | [d1, d2, d3] => { results := [.lit (.bool false)], args := [d1, d2, d3] }
  | _ => none }
def FnExactCellAllWrongFalsely : Prop := fnExactCellAllRow.holds Try.pinned (OpenSpec.ofChange fnExactCellAllWrong)

/-- 'laws.FnRunFind': WHATEVER THE INPUT: true; the input reads as it did. -/
def fnRunFindSpec : ChangeSpec := { name := "fnRunFind", fn := fun _ => fun
  | [d] => { results := [.lit (.bool true)], args := [d] }
  | _ => none }
def fnRunFindRow : OpenClaim := { program := "ytkeodfajgpbgaaa", sum := "5618cbc7e9a9fdb236c678e2aef8c7da9d90dc37efe4dcc437fe60b980bfb5c6", func := "loop.example/comptoir/laws.FnRunFind", spec := "fnRunFind", inPlace := ["internal/bytealg.abigen_runtime_cmpstring"], unfollowed := true, recurses := true, plainKeys := false, apart := false }
def FnRunFindSaid : Prop := fnRunFindRow.holds Try.pinned (OpenSpec.ofChange fnRunFindSpec)

/-- ITS FALSE NEIGHBOUR: 'it returns false'. Refute it at one input. -/
def fnRunFindWrong : ChangeSpec := { name := "fnRunFind", fn := fun _ => fun
  | [d] => { results := [.lit (.bool false)], args := [d] }
  | _ => none }
def FnRunFindWrongFalsely : Prop := fnRunFindRow.holds Try.pinned (OpenSpec.ofChange fnRunFindWrong)

/- THE SECOND FORM. 'bulk': how many values and letters a reading holds, each counted each time it is reached (what is shared counts as often as it is met; a slice's spare places count too). A statement '..UptoSaid' is the law's where the arguments, and the package variables that the reading takes, are together of bulk at most 1048576: NARROWER than '..Said'. Prove '..Said' where nothing that the law and all that it calls make is longer than what came in: it says more and counts as full. Else prove '..UptoSaid'. A law counts once. -/
mutual
def uptoBulk {H : Type} : DataW H → Nat
  | .lit (.string bytes) => bytes.length + 1
  | .lit _ => 1
  | .nil => 1
  | .ptr d => uptoBulk d + 1
  | .slice elems spare => uptoBulkAll elems + uptoBulkAll spare + 1
  | .agg parts => uptoBulkAll parts + 1
  | .iface _ d => uptoBulk d + 1
  | .map entries => uptoBulkEntries entries + 1
  | .held _ => 1
def uptoBulkAll {H : Type} : List (DataW H) → Nat
  | [] => 0
  | d :: r => uptoBulk d + uptoBulkAll r
def uptoBulkEntries {H : Type} : List (Lit × DataW H) → Nat
  | [] => 0
  | x :: r => uptoBulkEntry x + uptoBulkEntries r
def uptoBulkEntry {H : Type} : Lit × DataW H → Nat
  | (.string bytes, d) => bytes.length + uptoBulk d + 1
  | (_, d) => uptoBulk d + 1
 end
def uptoSmall : (H : Type) → List (DataW H) → Bool := fun _ ds => decide (uptoBulkAll ds ≤ 1048576)
def OpenSpec.upto (s : _root_.Go.ChangeSpec) : _root_.Go.OpenSpec := { _root_.Go.OpenSpec.ofChange s with cond := some uptoSmall }

/-- 'laws.FnExactTreeOk', WHERE WHAT IT READS IS OF BULK AT MOST 1048576: true; the input reads as it did. -/
def fnExactTreeOkUptoRow : OpenClaim := { program := "ytkeodfajgpbgaaa", sum := "5618cbc7e9a9fdb236c678e2aef8c7da9d90dc37efe4dcc437fe60b980bfb5c6", func := "loop.example/comptoir/laws.FnExactTreeOk", spec := "fnExactTreeOk", inPlace := ["internal/bytealg.abigen_runtime_cmpstring"], unfollowed := true, recurses := true, plainKeys := false, apart := false, narrowed := true }
def FnExactTreeOkUptoSaid : Prop := fnExactTreeOkUptoRow.holds Try.pinned (OpenSpec.upto fnExactTreeOkSpec)

/-- 'laws.FnExactStoreNew', WHERE WHAT IT READS IS OF BULK AT MOST 1048576: true; the input reads as it did. -/
def fnExactStoreNewUptoRow : OpenClaim := { program := "ytkeodfajgpbgaaa", sum := "5618cbc7e9a9fdb236c678e2aef8c7da9d90dc37efe4dcc437fe60b980bfb5c6", func := "loop.example/comptoir/laws.FnExactStoreNew", spec := "fnExactStoreNew", plainKeys := false, apart := false, narrowed := true }
def FnExactStoreNewUptoSaid : Prop := fnExactStoreNewUptoRow.holds Try.pinned (OpenSpec.upto fnExactStoreNewSpec)

/-- 'laws.FnExactStoreSame', WHERE WHAT IT READS IS OF BULK AT MOST 1048576: true; the input reads as it did. -/
def fnExactStoreSameUptoRow : OpenClaim := { program := "ytkeodfajgpbgaaa", sum := "5618cbc7e9a9fdb236c678e2aef8c7da9d90dc37efe4dcc437fe60b980bfb5c6", func := "loop.example/comptoir/laws.FnExactStoreSame", spec := "fnExactStoreSame", unfollowed := true, recurses := true, plainKeys := false, apart := false, narrowed := true }
def FnExactStoreSameUptoSaid : Prop := fnExactStoreSameUptoRow.holds Try.pinned (OpenSpec.upto fnExactStoreSameSpec)

/-- 'laws.FnExactBookAccts', WHERE WHAT IT READS IS OF BULK AT MOST 1048576: true; the input reads as it did. -/
def fnExactBookAcctsUptoRow : OpenClaim := { program := "ytkeodfajgpbgaaa", sum := "5618cbc7e9a9fdb236c678e2aef8c7da9d90dc37efe4dcc437fe60b980bfb5c6", func := "loop.example/comptoir/laws.FnExactBookAccts", spec := "fnExactBookAccts", inPlace := ["slices.overlaps[string]"], unfollowed := true, recurses := true, plainKeys := false, apart := false, narrowed := true }
def FnExactBookAcctsUptoSaid : Prop := fnExactBookAcctsUptoRow.holds Try.pinned (OpenSpec.upto fnExactBookAcctsSpec)

/-- 'laws.FnPostBent', WHERE WHAT IT READS IS OF BULK AT MOST 1048576: true; the input reads as it did. -/
def fnPostBentUptoRow : OpenClaim := { program := "ytkeodfajgpbgaaa", sum := "5618cbc7e9a9fdb236c678e2aef8c7da9d90dc37efe4dcc437fe60b980bfb5c6", func := "loop.example/comptoir/laws.FnPostBent", spec := "fnPostBent", plainKeys := false, apart := false, narrowed := true }
def FnPostBentUptoSaid : Prop := fnPostBentUptoRow.holds Try.pinned (OpenSpec.upto fnPostBentSpec)

/-- 'laws.FnExactSquash', WHERE WHAT IT READS IS OF BULK AT MOST 1048576: true; the input reads as it did. -/
def fnExactSquashUptoRow : OpenClaim := { program := "ytkeodfajgpbgaaa", sum := "5618cbc7e9a9fdb236c678e2aef8c7da9d90dc37efe4dcc437fe60b980bfb5c6", func := "loop.example/comptoir/laws.FnExactSquash", spec := "fnExactSquash", inPlace := ["internal/bytealg.abigen_runtime_cmpstring"], unfollowed := true, recurses := true, plainKeys := false, apart := false, narrowed := true }
def FnExactSquashUptoSaid : Prop := fnExactSquashUptoRow.holds Try.pinned (OpenSpec.upto fnExactSquashSpec)

/-- 'laws.FnExactMergeAll', WHERE WHAT IT READS IS OF BULK AT MOST 1048576: true; the input reads as it did. -/
def fnExactMergeAllUptoRow : OpenClaim := { program := "ytkeodfajgpbgaaa", sum := "5618cbc7e9a9fdb236c678e2aef8c7da9d90dc37efe4dcc437fe60b980bfb5c6", func := "loop.example/comptoir/laws.FnExactMergeAll", spec := "fnExactMergeAll", inPlace := ["internal/bytealg.abigen_runtime_cmpstring"], unfollowed := true, recurses := true, plainKeys := false, apart := false, narrowed := true }
def FnExactMergeAllUptoSaid : Prop := fnExactMergeAllUptoRow.holds Try.pinned (OpenSpec.upto fnExactMergeAllSpec)

/-- 'laws.FnExactCellAll', WHERE WHAT IT READS IS OF BULK AT MOST 1048576: true; the input reads as it did. -/
def fnExactCellAllUptoRow : OpenClaim := { program := "ytkeodfajgpbgaaa", sum := "5618cbc7e9a9fdb236c678e2aef8c7da9d90dc37efe4dcc437fe60b980bfb5c6", func := "loop.example/comptoir/laws.FnExactCellAll", spec := "fnExactCellAll", unfollowed := true, recurses := true, plainKeys := false, apart := false, narrowed := true }
def FnExactCellAllUptoSaid : Prop := fnExactCellAllUptoRow.holds Try.pinned (OpenSpec.upto fnExactCellAllSpec)

/-- 'laws.FnRunFind', WHERE WHAT IT READS IS OF BULK AT MOST 1048576: true; the input reads as it did. -/
def fnRunFindUptoRow : OpenClaim := { program := "ytkeodfajgpbgaaa", sum := "5618cbc7e9a9fdb236c678e2aef8c7da9d90dc37efe4dcc437fe60b980bfb5c6", func := "loop.example/comptoir/laws.FnRunFind", spec := "fnRunFind", inPlace := ["internal/bytealg.abigen_runtime_cmpstring"], unfollowed := true, recurses := true, plainKeys := false, apart := false, narrowed := true }
def FnRunFindUptoSaid : Prop := fnRunFindUptoRow.holds Try.pinned (OpenSpec.upto fnRunFindSpec)

end Rows
end Go.Proofs.Ytkeodfajgpbgaaa
