/-
  No cell of these rows narrows 'for every input' (looked for: loops, veiled, ifaces, maps, wideKeys, modest, calm, conditions, laid).
  DERIVED. THE GIVEN ROWS OF THIS SEAT. 11 by the template 'for every input the law returns true; each argument reads behind the call as it read before'; 0 by the template 'total and deterministic' (their statements: YtdedonabfjmfpaaTotals.lean).
  GIVEN WITH THE SEED: the statements are not yours to turn. If you find one false, say at which input.
  Laid BY PROGRAM, IN A SANDBOX (cutbox-rows.mjs): the forced cells as the released guide's own fill.sh prints them over the translation f6d1a0cd73c297da… (all of the seat's roots in one cut). By AI agents, Wed Nov 11 2026. No macro, syntax, notation, axiom, sorry.
-/
import Derived.Test.YtdedonabfjmfpaaChecked
import GoSem.Claim
import GoSem.ClaimJoined
import GoSem.ClaimMapViews
import Derived.JoinedTies
import Derived.KernelRfl
namespace Go.Proofs.Ytdedonabfjmfpaa
/- THE CELL 'sum', in the pinned program and in every row, IS THE sha256 OF THE DUMP (.gsa) THAT YtdedonabfjmfpaaProg.lean LOADS. Nothing in Lean hashes anything: it is a label: what it is worth is what the hold of that sum in a sandbox is worth. -/
noncomputable def Try.pinned : Pinned := { name := "ytdedonabfjmfpaa", sum := "f6d1a0cd73c297dab34cdacc919c964d4af665ad653ff831dacd762ec8d45f88", checked := Try.checked }
namespace Rows
def none {H : Type} : Left H := { results := [], args := [] }

/-- 'laws.FnExactKeyMask': WHATEVER THE INPUT: true; the input reads as it did. -/
def fnExactKeyMaskSpec : ChangeSpec := { name := "fnExactKeyMask", fn := fun _ => fun
  | [d] => { results := [.lit (.bool true)], args := [d] }
  | _ => none }
def fnExactKeyMaskRow : OpenClaim := { program := "ytdedonabfjmfpaa", sum := "f6d1a0cd73c297dab34cdacc919c964d4af665ad653ff831dacd762ec8d45f88", func := "loop.example/comptoir/laws.FnExactKeyMask", spec := "fnExactKeyMask", plainKeys := false, apart := false }
def FnExactKeyMaskSaid : Prop := fnExactKeyMaskRow.holds Try.pinned (OpenSpec.ofChange fnExactKeyMaskSpec)

/-- ITS FALSE NEIGHBOUR: 'it returns false'. Refute it at one input. -/
def fnExactKeyMaskWrong : ChangeSpec := { name := "fnExactKeyMask", fn := fun _ => fun
  | [d] => { results := [.lit (.bool false)], args := [d] }
  | _ => none }
def FnExactKeyMaskWrongFalsely : Prop := fnExactKeyMaskRow.holds Try.pinned (OpenSpec.ofChange fnExactKeyMaskWrong)

/-- 'laws.FnExactRunOk': WHATEVER THE INPUT: true; the input reads as it did. -/
def fnExactRunOkSpec : ChangeSpec := { name := "fnExactRunOk", fn := fun _ => fun
  | [d] => { results := [.lit (.bool true)], args := [d] }
  | _ => none }
def fnExactRunOkRow : OpenClaim := { program := "ytdedonabfjmfpaa", sum := "f6d1a0cd73c297dab34cdacc919c964d4af665ad653ff831dacd762ec8d45f88", func := "loop.example/comptoir/laws.FnExactRunOk", spec := "fnExactRunOk", inPlace := ["internal/bytealg.abigen_runtime_cmpstring"], unfollowed := true, recurses := true, plainKeys := false, apart := false }
def FnExactRunOkSaid : Prop := fnExactRunOkRow.holds Try.pinned (OpenSpec.ofChange fnExactRunOkSpec)

/-- ITS FALSE NEIGHBOUR: 'it returns false'. Refute it at one input. -/
def fnExactRunOkWrong : ChangeSpec := { name := "fnExactRunOk", fn := fun _ => fun
  | [d] => { results := [.lit (.bool false)], args := [d] }
  | _ => none }
def FnExactRunOkWrongFalsely : Prop := fnExactRunOkRow.holds Try.pinned (OpenSpec.ofChange fnExactRunOkWrong)

/-- 'laws.FnExactRunMay': WHATEVER THE INPUT: true; the input reads as it did. -/
def fnExactRunMaySpec : ChangeSpec := { name := "fnExactRunMay", fn := fun _ => fun
  | [d1, d2] => { results := [.lit (.bool true)], args := [d1, d2] }
  | _ => none }
def fnExactRunMayRow : OpenClaim := { program := "ytdedonabfjmfpaa", sum := "f6d1a0cd73c297dab34cdacc919c964d4af665ad653ff831dacd762ec8d45f88", func := "loop.example/comptoir/laws.FnExactRunMay", spec := "fnExactRunMay", inPlace := ["internal/bytealg.abigen_runtime_cmpstring"], unfollowed := true, recurses := true, plainKeys := false, apart := false }
def FnExactRunMaySaid : Prop := fnExactRunMayRow.holds Try.pinned (OpenSpec.ofChange fnExactRunMaySpec)

/-- ITS FALSE NEIGHBOUR: 'it returns false'. Refute it at one input. -/
def fnExactRunMayWrong : ChangeSpec := { name := "fnExactRunMay", fn := fun _ => fun
  | [d1, d2] => { results := [.lit (.bool false)], args := [d1, d2] }
  | _ => none }
def FnExactRunMayWrongFalsely : Prop := fnExactRunMayRow.holds Try.pinned (OpenSpec.ofChange fnExactRunMayWrong)

/-- 'laws.FnExactRunSame': WHATEVER THE INPUT: true; the input reads as it did. -/
def fnExactRunSameSpec : ChangeSpec := { name := "fnExactRunSame", fn := fun _ => fun
  | [d1, d2] => { results := [.lit (.bool true)], args := [d1, d2] }
  | _ => none }
def fnExactRunSameRow : OpenClaim := { program := "ytdedonabfjmfpaa", sum := "f6d1a0cd73c297dab34cdacc919c964d4af665ad653ff831dacd762ec8d45f88", func := "loop.example/comptoir/laws.FnExactRunSame", spec := "fnExactRunSame", plainKeys := false, apart := false }
def FnExactRunSameSaid : Prop := fnExactRunSameRow.holds Try.pinned (OpenSpec.ofChange fnExactRunSameSpec)

/-- ITS FALSE NEIGHBOUR: 'it returns false'. Refute it at one input. -/
def fnExactRunSameWrong : ChangeSpec := { name := "fnExactRunSame", fn := fun _ => fun
  | [d1, d2] => { results := [.lit (.bool false)], args := [d1, d2] }
  | _ => none }
def FnExactRunSameWrongFalsely : Prop := fnExactRunSameRow.holds Try.pinned (OpenSpec.ofChange fnExactRunSameWrong)

/-- 'laws.FnExactRunFind': WHATEVER THE INPUT: true; the input reads as it did. -/
def fnExactRunFindSpec : ChangeSpec := { name := "fnExactRunFind", fn := fun _ => fun
  | [d1, d2, d3] => { results := [.lit (.bool true)], args := [d1, d2, d3] }
  | _ => none }
def fnExactRunFindRow : OpenClaim := { program := "ytdedonabfjmfpaa", sum := "f6d1a0cd73c297dab34cdacc919c964d4af665ad653ff831dacd762ec8d45f88", func := "loop.example/comptoir/laws.FnExactRunFind", spec := "fnExactRunFind", inPlace := ["internal/bytealg.abigen_runtime_cmpstring"], unfollowed := true, recurses := true, plainKeys := false, apart := false }
def FnExactRunFindSaid : Prop := fnExactRunFindRow.holds Try.pinned (OpenSpec.ofChange fnExactRunFindSpec)

/-- ITS FALSE NEIGHBOUR: 'it returns false'. Refute it at one input. -/
def fnExactRunFindWrong : ChangeSpec := { name := "fnExactRunFind", fn := fun _ => fun
  | [d1, d2, d3] => { results := [.lit (.bool false)], args := [d1, d2, d3] }
  | _ => none }
def FnExactRunFindWrongFalsely : Prop := fnExactRunFindRow.holds Try.pinned (OpenSpec.ofChange fnExactRunFindWrong)

/-- 'laws.FnKeyMask': WHATEVER THE INPUT: true; the input reads as it did. -/
def fnKeyMaskSpec : ChangeSpec := { name := "fnKeyMask", fn := fun _ => fun
  | [d] => { results := [.lit (.bool true)], args := [d] }
  | _ => none }
def fnKeyMaskRow : OpenClaim := { program := "ytdedonabfjmfpaa", sum := "f6d1a0cd73c297dab34cdacc919c964d4af665ad653ff831dacd762ec8d45f88", func := "loop.example/comptoir/laws.FnKeyMask", spec := "fnKeyMask", plainKeys := false, apart := false }
def FnKeyMaskSaid : Prop := fnKeyMaskRow.holds Try.pinned (OpenSpec.ofChange fnKeyMaskSpec)

/-- ITS FALSE NEIGHBOUR: 'it returns false'. Refute it at one input. -/
def fnKeyMaskWrong : ChangeSpec := { name := "fnKeyMask", fn := fun _ => fun
  | [d] => { results := [.lit (.bool false)], args := [d] }
  | _ => none }
def FnKeyMaskWrongFalsely : Prop := fnKeyMaskRow.holds Try.pinned (OpenSpec.ofChange fnKeyMaskWrong)

/-- 'laws.FnRunMay': WHATEVER THE INPUT: true; the input reads as it did. -/
def fnRunMaySpec : ChangeSpec := { name := "fnRunMay", fn := fun _ => fun
  | [d] => { results := [.lit (.bool true)], args := [d] }
  | _ => none }
def fnRunMayRow : OpenClaim := { program := "ytdedonabfjmfpaa", sum := "f6d1a0cd73c297dab34cdacc919c964d4af665ad653ff831dacd762ec8d45f88", func := "loop.example/comptoir/laws.FnRunMay", spec := "fnRunMay", inPlace := ["internal/bytealg.abigen_runtime_cmpstring"], unfollowed := true, recurses := true, plainKeys := false, apart := false }
def FnRunMaySaid : Prop := fnRunMayRow.holds Try.pinned (OpenSpec.ofChange fnRunMaySpec)

/-- ITS FALSE NEIGHBOUR: 'it returns false'. Refute it at one input. -/
def fnRunMayWrong : ChangeSpec := { name := "fnRunMay", fn := fun _ => fun
  | [d] => { results := [.lit (.bool false)], args := [d] }
  | _ => none }
def FnRunMayWrongFalsely : Prop := fnRunMayRow.holds Try.pinned (OpenSpec.ofChange fnRunMayWrong)

/-- 'laws.FnRunBent': WHATEVER THE INPUT: true; the input reads as it did. -/
def fnRunBentSpec : ChangeSpec := { name := "fnRunBent", fn := fun _ => fun
  | [d] => { results := [.lit (.bool true)], args := [d] }
  | _ => none }
def fnRunBentRow : OpenClaim := { program := "ytdedonabfjmfpaa", sum := "f6d1a0cd73c297dab34cdacc919c964d4af665ad653ff831dacd762ec8d45f88", func := "loop.example/comptoir/laws.FnRunBent", spec := "fnRunBent", inPlace := ["internal/bytealg.abigen_runtime_cmpstring"], unfollowed := true, recurses := true, plainKeys := false, apart := false }
def FnRunBentSaid : Prop := fnRunBentRow.holds Try.pinned (OpenSpec.ofChange fnRunBentSpec)

/-- ITS FALSE NEIGHBOUR: 'it returns false'. Refute it at one input. -/
def fnRunBentWrong : ChangeSpec := { name := "fnRunBent", fn := fun _ => fun
  | [d] => { results := [.lit (.bool false)], args := [d] }
  | _ => none }
def FnRunBentWrongFalsely : Prop := fnRunBentRow.holds Try.pinned (OpenSpec.ofChange fnRunBentWrong)

/-- 'laws.FnExactBookAccts': WHATEVER THE INPUT: true; the input reads as it did. -/
def fnExactBookAcctsSpec : ChangeSpec := { name := "fnExactBookAccts", fn := fun _ => fun
  | [d] => { results := [.lit (.bool true)], args := [d] }
  | _ => none }
def fnExactBookAcctsRow : OpenClaim := { program := "ytdedonabfjmfpaa", sum := "f6d1a0cd73c297dab34cdacc919c964d4af665ad653ff831dacd762ec8d45f88", func := "loop.example/comptoir/laws.FnExactBookAccts", spec := "fnExactBookAccts", inPlace := ["slices.overlaps[string]"], unfollowed := true, recurses := true, plainKeys := false, apart := false }
def FnExactBookAcctsSaid : Prop := fnExactBookAcctsRow.holds Try.pinned (OpenSpec.ofChange fnExactBookAcctsSpec)

/-- ITS FALSE NEIGHBOUR: 'it returns false'. Refute it at one input. -/
def fnExactBookAcctsWrong : ChangeSpec := { name := "fnExactBookAccts", fn := fun _ => fun
  | [d] => { results := [.lit (.bool false)], args := [d] }
  | _ => none }
def FnExactBookAcctsWrongFalsely : Prop := fnExactBookAcctsRow.holds Try.pinned (OpenSpec.ofChange fnExactBookAcctsWrong)

/-- 'laws.FnPostFair': WHATEVER THE INPUT: true; the input reads as it did. -/
def fnPostFairSpec : ChangeSpec := { name := "fnPostFair", fn := fun _ => fun
  | [d] => { results := [.lit (.bool true)], args := [d] }
  | _ => none }
def fnPostFairRow : OpenClaim := { program := "ytdedonabfjmfpaa", sum := "f6d1a0cd73c297dab34cdacc919c964d4af665ad653ff831dacd762ec8d45f88", func := "loop.example/comptoir/laws.FnPostFair", spec := "fnPostFair", unfollowed := true, recurses := true, plainKeys := false, apart := false }
def FnPostFairSaid : Prop := fnPostFairRow.holds Try.pinned (OpenSpec.ofChange fnPostFairSpec)

/-- ITS FALSE NEIGHBOUR: 'it returns false'. Refute it at one input. -/
def fnPostFairWrong : ChangeSpec := { name := "fnPostFair", fn := fun _ => fun
  | [d] => { results := [.lit (.bool false)], args := [d] }
  | _ => none }
def FnPostFairWrongFalsely : Prop := fnPostFairRow.holds Try.pinned (OpenSpec.ofChange fnPostFairWrong)

/-- 'laws.FnPostBent': WHATEVER THE INPUT: true; the input reads as it did. -/
def fnPostBentSpec : ChangeSpec := { name := "fnPostBent", fn := fun _ => fun
  | [d] => { results := [.lit (.bool true)], args := [d] }
  | _ => none }
def fnPostBentRow : OpenClaim := { program := "ytdedonabfjmfpaa", sum := "f6d1a0cd73c297dab34cdacc919c964d4af665ad653ff831dacd762ec8d45f88", func := "loop.example/comptoir/laws.FnPostBent", spec := "fnPostBent", plainKeys := false, apart := false }
def FnPostBentSaid : Prop := fnPostBentRow.holds Try.pinned (OpenSpec.ofChange fnPostBentSpec)

/-- ITS FALSE NEIGHBOUR: 'it returns false'. Refute it at one input. -/
def fnPostBentWrong : ChangeSpec := { name := "fnPostBent", fn := fun _ => fun
  | [d] => { results := [.lit (.bool false)], args := [d] }
  | _ => none }
def FnPostBentWrongFalsely : Prop := fnPostBentRow.holds Try.pinned (OpenSpec.ofChange fnPostBentWrong)

/- THE SECOND FORM. 'bulk': how many values and letters a reading holds, each counted each time it is reached (what is shared counts as often as it is met; a slice's spare places count too). A statement '..UptoSaid' is the law's where the arguments, and the package variables that the reading takes, are together of bulk at most 1048576: NARROWER than '..Said'. Prove '..Said' where nothing that the law and all that it calls make is longer than what came in: it says more and counts as full. Else prove '..UptoSaid'. A law counts once. -/
mutual
def uptoBulk {H : Type} : DataW H → Nat
  | .lit (.string bytes) => bytes.length + 1
  | .lit _ => 1
  | .nil => 1
  | .ptr d => uptoBulk d + 1
  | .slice elems spare => uptoBulkAll elems + uptoBulkAll spare + 1
  | .agg parts => uptoBulkAll parts + 1
  | .iface _ d => uptoBulk d + 1
  | .map entries => uptoBulkEntries entries + 1
  | .held _ => 1
def uptoBulkAll {H : Type} : List (DataW H) → Nat
  | [] => 0
  | d :: r => uptoBulk d + uptoBulkAll r
def uptoBulkEntries {H : Type} : List (Lit × DataW H) → Nat
  | [] => 0
  | x :: r => uptoBulkEntry x + uptoBulkEntries r
def uptoBulkEntry {H : Type} : Lit × DataW H → Nat
  | (.string bytes, d) => bytes.length + uptoBulk d + 1
  | (_, d) => uptoBulk d + 1
 end
def uptoSmall : (H : Type) → List (DataW H) → Bool := fun _ ds => decide (uptoBulkAll ds ≤ 1048576)
def OpenSpec.upto (s : _root_.Go.ChangeSpec) : _root_.Go.OpenSpec := { _root_.Go.OpenSpec.ofChange s with cond := some uptoSmall }

/-- 'laws.FnExactKeyMask', WHERE WHAT IT READS IS OF BULK AT MOST 1048576: true; the input reads as it did. -/
def fnExactKeyMaskUptoRow : OpenClaim := { program := "ytdedonabfjmfpaa", sum := "f6d1a0cd73c297dab34cdacc919c964d4af665ad653ff831dacd762ec8d45f88", func := "loop.example/comptoir/laws.FnExactKeyMask", spec := "fnExactKeyMask", plainKeys := false, apart := false, narrowed := true }
def FnExactKeyMaskUptoSaid : Prop := fnExactKeyMaskUptoRow.holds Try.pinned (OpenSpec.upto fnExactKeyMaskSpec)

/-- 'laws.FnExactRunOk', WHERE WHAT IT READS IS OF BULK AT MOST 1048576: true; the input reads as it did. -/
def fnExactRunOkUptoRow : OpenClaim := { program := "ytdedonabfjmfpaa", sum := "f6d1a0cd73c297dab34cdacc919c964d4af665ad653ff831dacd762ec8d45f88", func := "loop.example/comptoir/laws.FnExactRunOk", spec := "fnExactRunOk", inPlace := ["internal/bytealg.abigen_runtime_cmpstring"], unfollowed := true, recurses := true, plainKeys := false, apart := false, narrowed := true }
def FnExactRunOkUptoSaid : Prop := fnExactRunOkUptoRow.holds Try.pinned (OpenSpec.upto fnExactRunOkSpec)

/-- 'laws.FnExactRunMay', WHERE WHAT IT READS IS OF BULK AT MOST 1048576: true; the input reads as it did. -/
def fnExactRunMayUptoRow : OpenClaim := { program := "ytdedonabfjmfpaa", sum := "f6d1a0cd73c297dab34cdacc919c964d4af665ad653ff831dacd762ec8d45f88", func := "loop.example/comptoir/laws.FnExactRunMay", spec := "fnExactRunMay", inPlace := ["internal/bytealg.abigen_runtime_cmpstring"], unfollowed := true, recurses := true, plainKeys := false, apart := false, narrowed := true }
def FnExactRunMayUptoSaid : Prop := fnExactRunMayUptoRow.holds Try.pinned (OpenSpec.upto fnExactRunMaySpec)

/-- 'laws.FnExactRunSame', WHERE WHAT IT READS IS OF BULK AT MOST 1048576: true; the input reads as it did. -/
def fnExactRunSameUptoRow : OpenClaim := { program := "ytdedonabfjmfpaa", sum := "f6d1a0cd73c297dab34cdacc919c964d4af665ad653ff831dacd762ec8d45f88", func := "loop.example/comptoir/laws.FnExactRunSame", spec := "fnExactRunSame", plainKeys := false, apart := false, narrowed := true }
def FnExactRunSameUptoSaid : Prop := fnExactRunSameUptoRow.holds Try.pinned (OpenSpec.upto fnExactRunSameSpec)

/-- 'laws.FnExactRunFind', WHERE WHAT IT READS IS OF BULK AT MOST 1048576: true; the input reads as it did. -/
def fnExactRunFindUptoRow : OpenClaim := { program := "ytdedonabfjmfpaa", sum := "f6d1a0cd73c297dab34cdacc919c964d4af665ad653ff831dacd762ec8d45f88", func := "loop.example/comptoir/laws.FnExactRunFind", spec := "fnExactRunFind", inPlace := ["internal/bytealg.abigen_runtime_cmpstring"], unfollowed := true, recurses := true, plainKeys := false, apart := false, narrowed := true }
def FnExactRunFindUptoSaid : Prop := fnExactRunFindUptoRow.holds Try.pinned (OpenSpec.upto fnExactRunFindSpec)

/-- 'laws.FnKeyMask', WHERE WHAT IT READS IS OF BULK AT MOST 1048576: true; the input reads as it did. -/
def fnKeyMaskUptoRow : OpenClaim := { program := "ytdedonabfjmfpaa", sum := "f6d1a0cd73c297dab34cdacc919c964d4af665ad653ff831dacd762ec8d45f88", func := "loop.example/comptoir/laws.FnKeyMask", spec := "fnKeyMask", plainKeys := false, apart := false, narrowed := true }
def FnKeyMaskUptoSaid : Prop := fnKeyMaskUptoRow.holds Try.pinned (OpenSpec.upto fnKeyMaskSpec)

/-- 'laws.FnRunMay', WHERE WHAT IT READS IS OF BULK AT MOST 1048576: true; the input reads as it did. -/
def fnRunMayUptoRow : OpenClaim := { program := "ytdedonabfjmfpaa", sum := "f6d1a0cd73c297dab34cdacc919c964d4af665ad653ff831dacd762ec8d45f88", func := "loop.example/comptoir/laws.FnRunMay", spec := "fnRunMay", inPlace := ["internal/bytealg.abigen_runtime_cmpstring"], unfollowed := true, recurses := true, plainKeys := false, apart := false, narrowed := true }
def FnRunMayUptoSaid : Prop := fnRunMayUptoRow.holds Try.pinned (OpenSpec.upto fnRunMaySpec)

/-- 'laws.FnRunBent', WHERE WHAT IT READS IS OF BULK AT MOST 1048576: true; the input reads as it did. -/
def fnRunBentUptoRow : OpenClaim := { program := "ytdedonabfjmfpaa", sum := "f6d1a0cd73c297dab34cdacc919c964d4af665ad653ff831dacd762ec8d45f88", func := "loop.example/comptoir/laws.FnRunBent", spec := "fnRunBent", inPlace := ["internal/bytealg.abigen_runtime_cmpstring"], unfollowed := true, recurses := true, plainKeys := false, apart := false, narrowed := true }
def FnRunBentUptoSaid : Prop := fnRunBentUptoRow.holds Try.pinned (OpenSpec.upto fnRunBentSpec)

/-- 'laws.FnExactBookAccts', WHERE WHAT IT READS IS OF BULK AT MOST 1048576: true; the input reads as it did. -/
def fnExactBookAcctsUptoRow : OpenClaim := { program := "ytdedonabfjmfpaa", sum := "f6d1a0cd73c297dab34cdacc919c964d4af665ad653ff831dacd762ec8d45f88", func := "loop.example/comptoir/laws.FnExactBookAccts", spec := "fnExactBookAccts", inPlace := ["slices.overlaps[string]"], unfollowed := true, recurses := true, plainKeys := false, apart := false, narrowed := true }
def FnExactBookAcctsUptoSaid : Prop := fnExactBookAcctsUptoRow.holds Try.pinned (OpenSpec.upto fnExactBookAcctsSpec)

/-- 'laws.FnPostFair', WHERE WHAT IT READS IS OF BULK AT MOST 1048576: true; the input reads as it did. -/
def fnPostFairUptoRow : OpenClaim := { program := "ytdedonabfjmfpaa", sum := "f6d1a0cd73c297dab34cdacc919c964d4af665ad653ff831dacd762ec8d45f88", func := "loop.example/comptoir/laws.FnPostFair", spec := "fnPostFair", unfollowed := true, recurses := true, plainKeys := false, apart := false, narrowed := true }
def FnPostFairUptoSaid : Prop := fnPostFairUptoRow.holds Try.pinned (OpenSpec.upto fnPostFairSpec)

/-- 'laws.FnPostBent', WHERE WHAT IT READS IS OF BULK AT MOST 1048576: true; the input reads as it did. -/
def fnPostBentUptoRow : OpenClaim := { program := "ytdedonabfjmfpaa", sum := "f6d1a0cd73c297dab34cdacc919c964d4af665ad653ff831dacd762ec8d45f88", func := "loop.example/comptoir/laws.FnPostBent", spec := "fnPostBent", plainKeys := false, apart := false, narrowed := true }
def FnPostBentUptoSaid : Prop := fnPostBentUptoRow.holds Try.pinned (OpenSpec.upto fnPostBentSpec)

end Rows
end Go.Proofs.Ytdedonabfjmfpaa
