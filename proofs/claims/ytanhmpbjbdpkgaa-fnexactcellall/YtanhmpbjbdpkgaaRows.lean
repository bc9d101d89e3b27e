/-
  No cell of these rows narrows 'for every input' (looked for: loops, veiled, ifaces, maps, wideKeys, modest, calm, conditions, laid).
  DERIVED. THE GIVEN ROWS OF THIS SEAT. 7 by the template 'for every input the law returns true; each argument reads behind the call as it read before'; 0 by the template 'total and deterministic' (their statements: YtanhmpbjbdpkgaaTotals.lean).
  GIVEN WITH THE SEED: the statements are not yours to turn. If you find one false, say at which input.
  Laid BY PROGRAM, IN A SANDBOX (cutbox-rows.mjs): the forced cells as the released guide's own fill.sh prints them over the translation a574ce7a0a5f6310… (all of the seat's roots in one cut). By AI agents, Wed Nov 11 2026. No macro, syntax, notation, axiom, sorry.
-/
import Derived.Test.YtanhmpbjbdpkgaaChecked
import GoSem.Claim
import GoSem.ClaimJoined
import GoSem.ClaimMapViews
import Derived.JoinedTies
import Derived.KernelRfl
namespace Go.Proofs.Ytanhmpbjbdpkgaa
/- THE CELL 'sum', in the pinned program and in every row, IS THE sha256 OF THE DUMP (.gsa) THAT YtanhmpbjbdpkgaaProg.lean LOADS. Nothing in Lean hashes anything: it is a label: what it is worth is what the hold of that sum in a sandbox is worth. -/
noncomputable def Try.pinned : Pinned := { name := "ytanhmpbjbdpkgaa", sum := "a574ce7a0a5f631042b7cd7deb88039796b13d01a52ee05b48ef13ec53d1e8a6", checked := Try.checked }
namespace Rows
def none {H : Type} : Left H := { results := [], args := [] }

/-- 'laws.FnExactSquash': WHATEVER THE INPUT: true; the input reads as it did. -/
def fnExactSquashSpec : ChangeSpec := { name := "fnExactSquash", fn := fun _ => fun
  | [d1, d2, d3] => { results := [.lit (.bool true)], args := [d1, d2, d3] }
  | _ => none }
def fnExactSquashRow : OpenClaim := { program := "ytanhmpbjbdpkgaa", sum := "a574ce7a0a5f631042b7cd7deb88039796b13d01a52ee05b48ef13ec53d1e8a6", func := "loop.example/comptoir/laws.FnExactSquash", spec := "fnExactSquash", inPlace := ["internal/bytealg.abigen_runtime_cmpstring"], unfollowed := true, recurses := true, plainKeys := false, apart := false }
def FnExactSquashSaid : Prop := fnExactSquashRow.holds Try.pinned (OpenSpec.ofChange fnExactSquashSpec)

/-- ITS FALSE NEIGHBOUR: 'it returns false'. Refute it at one input. -/
def fnExactSquashWrong : ChangeSpec := { name := "fnExactSquash", fn := fun _ => fun
  | [d1, d2, d3] => { results := [.lit (.bool false)], args := [d1, d2, d3] }
  | _ => none }
def FnExactSquashWrongFalsely : Prop := fnExactSquashRow.holds Try.pinned (OpenSpec.ofChange fnExactSquashWrong)

/-- 'laws.FnExactCellAll': WHATEVER THE INPUT: true; the input reads as it did. -/
def fnExactCellAllSpec : ChangeSpec := { name := "fnExactCellAll", fn := fun _ => fun
  | [d1, d2, d3] => { results := [.lit (.bool true)], args := [d1, d2, d3] }
  | _ => none }
def fnExactCellAllRow : OpenClaim := { program := "ytanhmpbjbdpkgaa", sum := "a574ce7a0a5f631042b7cd7deb88039796b13d01a52ee05b48ef13ec53d1e8a6", func := "loop.example/comptoir/laws.FnExactCellAll", spec := "fnExactCellAll", unfollowed := true, recurses := true, plainKeys := false, apart := false }
def FnExactCellAllSaid : Prop := fnExactCellAllRow.holds Try.pinned (OpenSpec.ofChange fnExactCellAllSpec)

/-- ITS FALSE NEIGHBOUR: 'it returns false'. Refute it at one input. -/
def fnExactCellAllWrong : ChangeSpec := { name := "fnExactCellAll", fn := fun _ => fun
  | [d1, d2, d3] => { results := [.lit (.bool false)], args := [d1, d2, d3] }
  | _ => none }
def FnExactCellAllWrongFalsely : Prop := fnExactCellAllRow.holds Try.pinned (OpenSpec.ofChange fnExactCellAllWrong)

/-- 'laws.FnRunFind': WHATEVER THE INPUT: true; the input reads as it did. -/
def fnRunFindSpec : ChangeSpec := { name := "fnRunFind", fn := fun _ => fun
  | [d] => { results := [.lit (.bool true)], args := [d] }
  | _ => none }
def fnRunFindRow : OpenClaim := { program := "ytanhmpbjbdpkgaa", sum := "a574ce7a0a5f631042b7cd7deb88039796b13d01a52ee05b48ef13ec53d1e8a6", func := "loop.example/comptoir/laws.FnRunFind", spec := "fnRunFind", inPlace := ["internal/bytealg.abigen_runtime_cmpstring"], unfollowed := true, recurses := true, plainKeys := false, apart := false }
def FnRunFindSaid : Prop := fnRunFindRow.holds Try.pinned (OpenSpec.ofChange fnRunFindSpec)

/-- ITS FALSE NEIGHBOUR: 'it returns false'. Refute it at one input. -/
def fnRunFindWrong : ChangeSpec := { name := "fnRunFind", fn := fun _ => fun
  | [d] => { results := [.lit (.bool false)], args := [d] }
  | _ => none }
def FnRunFindWrongFalsely : Prop := fnRunFindRow.holds Try.pinned (OpenSpec.ofChange fnRunFindWrong)

/-- 'laws.FnCellAll': WHATEVER THE INPUT: true; the input reads as it did. -/
def fnCellAllSpec : ChangeSpec := { name := "fnCellAll", fn := fun _ => fun
  | [d1, d2] => { results := [.lit (.bool true)], args := [d1, d2] }
  | _ => none }
def fnCellAllRow : OpenClaim := { program := "ytanhmpbjbdpkgaa", sum := "a574ce7a0a5f631042b7cd7deb88039796b13d01a52ee05b48ef13ec53d1e8a6", func := "loop.example/comptoir/laws.FnCellAll", spec := "fnCellAll", unfollowed := true, recurses := true, plainKeys := false, apart := false }
def FnCellAllSaid : Prop := fnCellAllRow.holds Try.pinned (OpenSpec.ofChange fnCellAllSpec)

/-- ITS FALSE NEIGHBOUR: 'it returns false'. Refute it at one input. -/
def fnCellAllWrong : ChangeSpec := { name := "fnCellAll", fn := fun _ => fun
  | [d1, d2] => { results := [.lit (.bool false)], args := [d1, d2] }
  | _ => none }
def FnCellAllWrongFalsely : Prop := fnCellAllRow.holds Try.pinned (OpenSpec.ofChange fnCellAllWrong)

/-- 'laws.FnCellNext': WHATEVER THE INPUT: true; the input reads as it did. -/
def fnCellNextSpec : ChangeSpec := { name := "fnCellNext", fn := fun _ => fun
  | [d] => { results := [.lit (.bool true)], args := [d] }
  | _ => none }
def fnCellNextRow : OpenClaim := { program := "ytanhmpbjbdpkgaa", sum := "a574ce7a0a5f631042b7cd7deb88039796b13d01a52ee05b48ef13ec53d1e8a6", func := "loop.example/comptoir/laws.FnCellNext", spec := "fnCellNext", unfollowed := true, recurses := true, plainKeys := false, apart := false }
def FnCellNextSaid : Prop := fnCellNextRow.holds Try.pinned (OpenSpec.ofChange fnCellNextSpec)

/-- ITS FALSE NEIGHBOUR: 'it returns false'. Refute it at one input. -/
def fnCellNextWrong : ChangeSpec := { name := "fnCellNext", fn := fun _ => fun
  | [d] => { results := [.lit (.bool false)], args := [d] }
  | _ => none }
def FnCellNextWrongFalsely : Prop := fnCellNextRow.holds Try.pinned (OpenSpec.ofChange fnCellNextWrong)

/-- 'laws.FnCellSum': WHATEVER THE INPUT: true; the input reads as it did. -/
def fnCellSumSpec : ChangeSpec := { name := "fnCellSum", fn := fun _ => fun
  | [d] => { results := [.lit (.bool true)], args := [d] }
  | _ => none }
def fnCellSumRow : OpenClaim := { program := "ytanhmpbjbdpkgaa", sum := "a574ce7a0a5f631042b7cd7deb88039796b13d01a52ee05b48ef13ec53d1e8a6", func := "loop.example/comptoir/laws.FnCellSum", spec := "fnCellSum", unfollowed := true, recurses := true, plainKeys := false, apart := false }
def FnCellSumSaid : Prop := fnCellSumRow.holds Try.pinned (OpenSpec.ofChange fnCellSumSpec)

/-- ITS FALSE NEIGHBOUR: 'it returns false'. Refute it at one input. -/
def fnCellSumWrong : ChangeSpec := { name := "fnCellSum", fn := fun _ => fun
  | [d] => { results := [.lit (.bool false)], args := [d] }
  | _ => none }
def FnCellSumWrongFalsely : Prop := fnCellSumRow.holds Try.pinned (OpenSpec.ofChange fnCellSumWrong)

/-- 'laws.FnBookSides': WHATEVER THE INPUT: true; the input reads as it did. -/
def fnBookSidesSpec : ChangeSpec := { name := "fnBookSides", fn := fun _ => fun
  | [d] => { results := [.lit (.bool true)], args := [d] }
  | _ => none }
def fnBookSidesRow : OpenClaim := { program := "ytanhmpbjbdpkgaa", sum := "a574ce7a0a5f631042b7cd7deb88039796b13d01a52ee05b48ef13ec53d1e8a6", func := "loop.example/comptoir/laws.FnBookSides", spec := "fnBookSides", inPlace := ["slices.overlaps[string]"], unfollowed := true, recurses := true, plainKeys := false, apart := false }
def FnBookSidesSaid : Prop := fnBookSidesRow.holds Try.pinned (OpenSpec.ofChange fnBookSidesSpec)

/-- ITS FALSE NEIGHBOUR: 'it returns false'. Refute it at one input. -/
def fnBookSidesWrong : ChangeSpec := { name := "fnBookSides", fn := fun _ => fun
  | [d] => { results := [.lit (.bool false)], args := [d] }
  | _ => none }
def FnBookSidesWrongFalsely : Prop := fnBookSidesRow.holds Try.pinned (OpenSpec.ofChange fnBookSidesWrong)

/- THE SECOND FORM. 'bulk': how many values and letters a reading holds, each counted each time it is reached (what is shared counts as often as it is met; a slice's spare places count too). A statement '..UptoSaid' is the law's where the arguments, and the package variables that the reading takes, are together of bulk at most 1048576: NARROWER than '..Said'. Prove '..Said' where nothing that the law and all that it calls make is longer than what came in: it says more and counts as full. Else prove '..UptoSaid'. A law counts once. -/
mutual
def uptoBulk {H : Type} : DataW H → Nat
  | .lit (.string bytes) => bytes.length + 1
  | .lit _ => 1
  | .nil => 1
  | .ptr d => uptoBulk d + 1
  | .slice elems spare => uptoBulkAll elems + uptoBulkAll spare + 1
  | .agg parts => uptoBulkAll parts + 1
  | .iface _ d => uptoBulk d + 1
  | .map entries => uptoBulkEntries entries + 1
  | .held _ => 1
def uptoBulkAll {H : Type} : List (DataW H) → Nat
  | [] => 0
  | d :: r => uptoBulk d + uptoBulkAll r
def uptoBulkEntries {H : Type} : List (Lit × DataW H) → Nat
  | [] => 0
  | x :: r => uptoBulkEntry x + uptoBulkEntries r
def uptoBulkEntry {H : Type} : Lit × DataW H → Nat
  | (.string bytes, d) => bytes.length + uptoBulk d + 1
  | (_, d) => uptoBulk d + 1
 end
def uptoSmall : (H : Type) → List (DataW H) → Bool := fun _ ds => decide (uptoBulkAll ds ≤ 1048576)
def OpenSpec.upto (s : _root_.Go.ChangeSpec) : _root_.Go.OpenSpec := { _root_.Go.OpenSpec.ofChange s with cond := some uptoSmall }

/-- 'laws.FnExactSquash', WHERE WHAT IT READS IS OF BULK AT MOST 1048576: true; the input reads as it did. -/
def fnExactSquashUptoRow : OpenClaim := { program := "ytanhmpbjbdpkgaa", sum := "a574ce7a0a5f631042b7cd7deb88039796b13d01a52ee05b48ef13ec53d1e8a6", func := "loop.example/comptoir/laws.FnExactSquash", spec := "fnExactSquash", inPlace := ["internal/bytealg.abigen_runtime_cmpstring"], unfollowed := true, recurses := true, plainKeys := false, apart := false, narrowed := true }
def FnExactSquashUptoSaid : Prop := fnExactSquashUptoRow.holds Try.pinned (OpenSpec.upto fnExactSquashSpec)

/-- 'laws.FnExactCellAll', WHERE WHAT IT READS IS OF BULK AT MOST 1048576: true; the input reads as it did. -/
def fnExactCellAllUptoRow : OpenClaim := { program := "ytanhmpbjbdpkgaa", sum := "a574ce7a0a5f631042b7cd7deb88039796b13d01a52ee05b48ef13ec53d1e8a6", func := "loop.example/comptoir/laws.FnExactCellAll", spec := "fnExactCellAll", unfollowed := true, recurses := true, plainKeys := false, apart := false, narrowed := true }
def FnExactCellAllUptoSaid : Prop := fnExactCellAllUptoRow.holds Try.pinned (OpenSpec.upto fnExactCellAllSpec)

/-- 'laws.FnRunFind', WHERE WHAT IT READS IS OF BULK AT MOST 1048576: true; the input reads as it did. -/
def fnRunFindUptoRow : OpenClaim := { program := "ytanhmpbjbdpkgaa", sum := "a574ce7a0a5f631042b7cd7deb88039796b13d01a52ee05b48ef13ec53d1e8a6", func := "loop.example/comptoir/laws.FnRunFind", spec := "fnRunFind", inPlace := ["internal/bytealg.abigen_runtime_cmpstring"], unfollowed := true, recurses := true, plainKeys := false, apart := false, narrowed := true }
def FnRunFindUptoSaid : Prop := fnRunFindUptoRow.holds Try.pinned (OpenSpec.upto fnRunFindSpec)

/-- 'laws.FnCellAll', WHERE WHAT IT READS IS OF BULK AT MOST 1048576: true; the input reads as it did. -/
def fnCellAllUptoRow : OpenClaim := { program := "ytanhmpbjbdpkgaa", sum := "a574ce7a0a5f631042b7cd7deb88039796b13d01a52ee05b48ef13ec53d1e8a6", func := "loop.example/comptoir/laws.FnCellAll", spec := "fnCellAll", unfollowed := true, recurses := true, plainKeys := false, apart := false, narrowed := true }
def FnCellAllUptoSaid : Prop := fnCellAllUptoRow.holds Try.pinned (OpenSpec.upto fnCellAllSpec)

/-- 'laws.FnCellNext', WHERE WHAT IT READS IS OF BULK AT MOST 1048576: true; the input reads as it did. -/
def fnCellNextUptoRow : OpenClaim := { program := "ytanhmpbjbdpkgaa", sum := "a574ce7a0a5f631042b7cd7deb88039796b13d01a52ee05b48ef13ec53d1e8a6", func := "loop.example/comptoir/laws.FnCellNext", spec := "fnCellNext", unfollowed := true, recurses := true, plainKeys := false, apart := false, narrowed := true }
def FnCellNextUptoSaid : Prop := fnCellNextUptoRow.holds Try.pinned (OpenSpec.upto fnCellNextSpec)

/-- 'laws.FnCellSum', WHERE WHAT IT READS IS OF BULK AT MOST 1048576: true; the input reads as it did. -/
def fnCellSumUptoRow : OpenClaim := { program := "ytanhmpbjbdpkgaa", sum := "a574ce7a0a5f631042b7cd7deb88039796b13d01a52ee05b48ef13ec53d1e8a6", func := "loop.example/comptoir/laws.FnCellSum", spec := "fnCellSum", unfollowed := true, recurses := true, plainKeys := false, apart := false, narrowed := true }
def FnCellSumUptoSaid : Prop := fnCellSumUptoRow.holds Try.pinned (OpenSpec.upto fnCellSumSpec)

/-- 'laws.FnBookSides', WHERE WHAT IT READS IS OF BULK AT MOST 1048576: true; the input reads as it did. -/
def fnBookSidesUptoRow : OpenClaim := { program := "ytanhmpbjbdpkgaa", sum := "a574ce7a0a5f631042b7cd7deb88039796b13d01a52ee05b48ef13ec53d1e8a6", func := "loop.example/comptoir/laws.FnBookSides", spec := "fnBookSides", inPlace := ["slices.overlaps[string]"], unfollowed := true, recurses := true, plainKeys := false, apart := false, narrowed := true }
def FnBookSidesUptoSaid : Prop := fnBookSidesUptoRow.holds Try.pinned (OpenSpec.upto fnBookSidesSpec)

end Rows
end Go.Proofs.Ytanhmpbjbdpkgaa
