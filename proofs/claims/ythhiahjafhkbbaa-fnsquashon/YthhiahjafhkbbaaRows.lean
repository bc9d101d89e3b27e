/-
  No cell of these rows narrows 'for every input' (looked for: loops, veiled, ifaces, maps, wideKeys, modest, calm, conditions, laid).
  DERIVED. THE GIVEN ROWS OF THIS SEAT. 8 by the template 'for every input the law returns true; each argument reads behind the call as it read before'; 0 by the template 'total and deterministic' (their statements: YthhiahjafhkbbaaTotals.lean).
  GIVEN WITH THE SEED: the statements are not yours to turn. If you find one false, say at which input.
  Laid BY PROGRAM, IN A SANDBOX (cutbox-rows.mjs): the forced cells as the released guide's own fill.sh prints them over the translation e23c9d78ea3a3f3a… (all of the seat's roots in one cut). By AI agents, Wed Nov 11 2026. No macro, syntax, notation, axiom, sorry.
-/
import Derived.Test.YthhiahjafhkbbaaChecked
import GoSem.Claim
import GoSem.ClaimJoined
import GoSem.ClaimMapViews
import Derived.JoinedTies
import Derived.KernelRfl
namespace Go.Proofs.Ythhiahjafhkbbaa
/- THE CELL 'sum', in the pinned program and in every row, IS THE sha256 OF THE DUMP (.gsa) THAT YthhiahjafhkbbaaProg.lean LOADS. Nothing in Lean hashes anything: it is a label: what it is worth is what the hold of that sum in a sandbox is worth. -/
noncomputable def Try.pinned : Pinned := { name := "ythhiahjafhkbbaa", sum := "e23c9d78ea3a3f3acf87b508990c0546fd01953daeb5b6322c912ded50b4dc49", checked := Try.checked }
namespace Rows
def none {H : Type} : Left H := { results := [], args := [] }

/-- 'laws.FnExactSquash': WHATEVER THE INPUT: true; the input reads as it did. -/
def fnExactSquashSpec : ChangeSpec := { name := "fnExactSquash", fn := fun _ => fun
  | [d1, d2, d3] => { results := [.lit (.bool true)], args := [d1, d2, d3] }
  | _ => none }
def fnExactSquashRow : OpenClaim := { program := "ythhiahjafhkbbaa", sum := "e23c9d78ea3a3f3acf87b508990c0546fd01953daeb5b6322c912ded50b4dc49", func := "loop.example/comptoir/laws.FnExactSquash", spec := "fnExactSquash", inPlace := ["internal/bytealg.abigen_runtime_cmpstring"], unfollowed := true, recurses := true, apart := false }
def FnExactSquashSaid : Prop := fnExactSquashRow.holds Try.pinned (OpenSpec.ofChange fnExactSquashSpec)

/-- ITS FALSE NEIGHBOUR: 'it returns false'. Refute it at one input. -/
def fnExactSquashWrong : ChangeSpec := { name := "fnExactSquash", fn := fun _ => fun
  | [d1, d2, d3] => { results := [.lit (.bool false)], args := [d1, d2, d3] }
  | _ => none }
def FnExactSquashWrongFalsely : Prop := fnExactSquashRow.holds Try.pinned (OpenSpec.ofChange fnExactSquashWrong)

/-- 'laws.FnExactCellAll': WHATEVER THE INPUT: true; the input reads as it did. -/
def fnExactCellAllSpec : ChangeSpec := { name := "fnExactCellAll", fn := fun _ => fun
  | [d1, d2, d3] => { results := [.lit (.bool true)], args := [d1, d2, d3] }
  | _ => none }
def fnExactCellAllRow : OpenClaim := { program := "ythhiahjafhkbbaa", sum := "e23c9d78ea3a3f3acf87b508990c0546fd01953daeb5b6322c912ded50b4dc49", func := "loop.example/comptoir/laws.FnExactCellAll", spec := "fnExactCellAll", unfollowed := true, recurses := true, apart := false }
def FnExactCellAllSaid : Prop := fnExactCellAllRow.holds Try.pinned (OpenSpec.ofChange fnExactCellAllSpec)

/-- ITS FALSE NEIGHBOUR: 'it returns false'. Refute it at one input. -/
def fnExactCellAllWrong : ChangeSpec := { name := "fnExactCellAll", fn := fun _ => fun
  | [d1, d2, d3] => { results := [.lit (.bool false)], args := [d1, d2, d3] }
  | _ => none }
def FnExactCellAllWrongFalsely : Prop := fnExactCellAllRow.holds Try.pinned (OpenSpec.ofChange fnExactCellAllWrong)

/-- 'laws.FnExactRunFind': WHATEVER THE INPUT: true; the input reads as it did. -/
def fnExactRunFindSpec : ChangeSpec := { name := "fnExactRunFind", fn := fun _ => fun
  | [d1, d2, d3] => { results := [.lit (.bool true)], args := [d1, d2, d3] }
  | _ => none }
def fnExactRunFindRow : OpenClaim := { program := "ythhiahjafhkbbaa", sum := "e23c9d78ea3a3f3acf87b508990c0546fd01953daeb5b6322c912ded50b4dc49", func := "loop.example/comptoir/laws.FnExactRunFind", spec := "fnExactRunFind", inPlace := ["internal/bytealg.abigen_runtime_cmpstring"], unfollowed := true, recurses := true, apart := false }
def FnExactRunFindSaid : Prop := fnExactRunFindRow.holds Try.pinned (OpenSpec.ofChange fnExactRunFindSpec)

/-- ITS FALSE NEIGHBOUR: 'it returns false'. Refute it at one input. -/
def fnExactRunFindWrong : ChangeSpec := { name := "fnExactRunFind", fn := fun _ => fun
  | [d1, d2, d3] => { results := [.lit (.bool false)], args := [d1, d2, d3] }
  | _ => none }
def FnExactRunFindWrongFalsely : Prop := fnExactRunFindRow.holds Try.pinned (OpenSpec.ofChange fnExactRunFindWrong)

/-- 'laws.FnSquash': WHATEVER THE INPUT: true; the input reads as it did. -/
def fnSquashSpec : ChangeSpec := { name := "fnSquash", fn := fun _ => fun
  | [d] => { results := [.lit (.bool true)], args := [d] }
  | _ => none }
def fnSquashRow : OpenClaim := { program := "ythhiahjafhkbbaa", sum := "e23c9d78ea3a3f3acf87b508990c0546fd01953daeb5b6322c912ded50b4dc49", func := "loop.example/comptoir/laws.FnSquash", spec := "fnSquash", inPlace := ["internal/bytealg.abigen_runtime_cmpstring"], unfollowed := true, recurses := true, apart := false }
def FnSquashSaid : Prop := fnSquashRow.holds Try.pinned (OpenSpec.ofChange fnSquashSpec)

/-- ITS FALSE NEIGHBOUR: 'it returns false'. Refute it at one input. -/
def fnSquashWrong : ChangeSpec := { name := "fnSquash", fn := fun _ => fun
  | [d] => { results := [.lit (.bool false)], args := [d] }
  | _ => none }
def FnSquashWrongFalsely : Prop := fnSquashRow.holds Try.pinned (OpenSpec.ofChange fnSquashWrong)

/-- 'laws.FnSquashOn': WHATEVER THE INPUT: true; the input reads as it did. -/
def fnSquashOnSpec : ChangeSpec := { name := "fnSquashOn", fn := fun _ => fun
  | [d1, d2] => { results := [.lit (.bool true)], args := [d1, d2] }
  | _ => none }
def fnSquashOnRow : OpenClaim := { program := "ythhiahjafhkbbaa", sum := "e23c9d78ea3a3f3acf87b508990c0546fd01953daeb5b6322c912ded50b4dc49", func := "loop.example/comptoir/laws.FnSquashOn", spec := "fnSquashOn", inPlace := ["internal/bytealg.abigen_runtime_cmpstring"], unfollowed := true, recurses := true, apart := false }
def FnSquashOnSaid : Prop := fnSquashOnRow.holds Try.pinned (OpenSpec.ofChange fnSquashOnSpec)

/-- ITS FALSE NEIGHBOUR: 'it returns false'. Refute it at one input. -/
def fnSquashOnWrong : ChangeSpec := { name := "fnSquashOn", fn := fun _ => fun
  | [d1, d2] => { results := [.lit (.bool false)], args := [d1, d2] }
  | _ => none }
def FnSquashOnWrongFalsely : Prop := fnSquashOnRow.holds Try.pinned (OpenSpec.ofChange fnSquashOnWrong)

/-- 'laws.FnSquashTwice': WHATEVER THE INPUT: true; the input reads as it did. -/
def fnSquashTwiceSpec : ChangeSpec := { name := "fnSquashTwice", fn := fun _ => fun
  | [d] => { results := [.lit (.bool true)], args := [d] }
  | _ => none }
def fnSquashTwiceRow : OpenClaim := { program := "ythhiahjafhkbbaa", sum := "e23c9d78ea3a3f3acf87b508990c0546fd01953daeb5b6322c912ded50b4dc49", func := "loop.example/comptoir/laws.FnSquashTwice", spec := "fnSquashTwice", inPlace := ["internal/bytealg.abigen_runtime_cmpstring"], unfollowed := true, recurses := true, apart := false }
def FnSquashTwiceSaid : Prop := fnSquashTwiceRow.holds Try.pinned (OpenSpec.ofChange fnSquashTwiceSpec)

/-- ITS FALSE NEIGHBOUR: 'it returns false'. Refute it at one input. -/
def fnSquashTwiceWrong : ChangeSpec := { name := "fnSquashTwice", fn := fun _ => fun
  | [d] => { results := [.lit (.bool false)], args := [d] }
  | _ => none }
def FnSquashTwiceWrongFalsely : Prop := fnSquashTwiceRow.holds Try.pinned (OpenSpec.ofChange fnSquashTwiceWrong)

/-- 'laws.FnSquashTimes': WHATEVER THE INPUT: true; the input reads as it did. -/
def fnSquashTimesSpec : ChangeSpec := { name := "fnSquashTimes", fn := fun _ => fun
  | [d] => { results := [.lit (.bool true)], args := [d] }
  | _ => none }
def fnSquashTimesRow : OpenClaim := { program := "ythhiahjafhkbbaa", sum := "e23c9d78ea3a3f3acf87b508990c0546fd01953daeb5b6322c912ded50b4dc49", func := "loop.example/comptoir/laws.FnSquashTimes", spec := "fnSquashTimes", inPlace := ["internal/bytealg.abigen_runtime_cmpstring"], unfollowed := true, recurses := true, apart := false }
def FnSquashTimesSaid : Prop := fnSquashTimesRow.holds Try.pinned (OpenSpec.ofChange fnSquashTimesSpec)

/-- ITS FALSE NEIGHBOUR: 'it returns false'. Refute it at one input. -/
def fnSquashTimesWrong : ChangeSpec := { name := "fnSquashTimes", fn := fun _ => fun
  | [d] => { results := [.lit (.bool false)], args := [d] }
  | _ => none }
def FnSquashTimesWrongFalsely : Prop := fnSquashTimesRow.holds Try.pinned (OpenSpec.ofChange fnSquashTimesWrong)

/-- 'laws.FnSquashFew': WHATEVER THE INPUT: true; the input reads as it did. -/
def fnSquashFewSpec : ChangeSpec := { name := "fnSquashFew", fn := fun _ => fun
  | [d] => { results := [.lit (.bool true)], args := [d] }
  | _ => none }
def fnSquashFewRow : OpenClaim := { program := "ythhiahjafhkbbaa", sum := "e23c9d78ea3a3f3acf87b508990c0546fd01953daeb5b6322c912ded50b4dc49", func := "loop.example/comptoir/laws.FnSquashFew", spec := "fnSquashFew", inPlace := ["internal/bytealg.abigen_runtime_cmpstring"], unfollowed := true, recurses := true, apart := false }
def FnSquashFewSaid : Prop := fnSquashFewRow.holds Try.pinned (OpenSpec.ofChange fnSquashFewSpec)

/-- ITS FALSE NEIGHBOUR: 'it returns false'. Refute it at one input. -/
def fnSquashFewWrong : ChangeSpec := { name := "fnSquashFew", fn := fun _ => fun
  | [d] => { results := [.lit (.bool false)], args := [d] }
  | _ => none }
def FnSquashFewWrongFalsely : Prop := fnSquashFewRow.holds Try.pinned (OpenSpec.ofChange fnSquashFewWrong)

/- THE SECOND FORM. 'bulk': how many values and letters a reading holds, each counted each time it is reached (what is shared counts as often as it is met; a slice's spare places count too). A statement '..UptoSaid' is the law's where the arguments, and the package variables that the reading takes, are together of bulk at most 1048576: NARROWER than '..Said'. Prove '..Said' where nothing that the law and all that it calls make is longer than what came in: it says more and counts as full. Else prove '..UptoSaid'. A law counts once. -/
mutual
def uptoBulk {H : Type} : DataW H → Nat
  | .lit (.string bytes) => bytes.length + 1
  | .lit _ => 1
  | .nil => 1
  | .ptr d => uptoBulk d + 1
  | .slice elems spare => uptoBulkAll elems + uptoBulkAll spare + 1
  | .agg parts => uptoBulkAll parts + 1
  | .iface _ d => uptoBulk d + 1
  | .map entries => uptoBulkEntries entries + 1
  | .held _ => 1
def uptoBulkAll {H : Type} : List (DataW H) → Nat
  | [] => 0
  | d :: r => uptoBulk d + uptoBulkAll r
def uptoBulkEntries {H : Type} : List (Lit × DataW H) → Nat
  | [] => 0
  | x :: r => uptoBulkEntry x + uptoBulkEntries r
def uptoBulkEntry {H : Type} : Lit × DataW H → Nat
  | (.string bytes, d) => bytes.length + uptoBulk d + 1
  | (_, d) => uptoBulk d + 1
 end
def uptoSmall : (H : Type) → List (DataW H) → Bool := fun _ ds => decide (uptoBulkAll ds ≤ 1048576)
def OpenSpec.upto (s : _root_.Go.ChangeSpec) : _root_.Go.OpenSpec := { _root_.Go.OpenSpec.ofChange s with cond := some uptoSmall }

/-- 'laws.FnExactSquash', WHERE WHAT IT READS IS OF BULK AT MOST 1048576: true; the input reads as it did. -/
def fnExactSquashUptoRow : OpenClaim := { program := "ythhiahjafhkbbaa", sum := "e23c9d78ea3a3f3acf87b508990c0546fd01953daeb5b6322c912ded50b4dc49", func := "loop.example/comptoir/laws.FnExactSquash", spec := "fnExactSquash", inPlace := ["internal/bytealg.abigen_runtime_cmpstring"], unfollowed := true, recurses := true, apart := false, narrowed := true }
def FnExactSquashUptoSaid : Prop := fnExactSquashUptoRow.holds Try.pinned (OpenSpec.upto fnExactSquashSpec)

/-- 'laws.FnExactCellAll', WHERE WHAT IT READS IS OF BULK AT MOST 1048576: true; the input reads as it did. -/
def fnExactCellAllUptoRow : OpenClaim := { program := "ythhiahjafhkbbaa", sum := "e23c9d78ea3a3f3acf87b508990c0546fd01953daeb5b6322c912ded50b4dc49", func := "loop.example/comptoir/laws.FnExactCellAll", spec := "fnExactCellAll", unfollowed := true, recurses := true, apart := false, narrowed := true }
def FnExactCellAllUptoSaid : Prop := fnExactCellAllUptoRow.holds Try.pinned (OpenSpec.upto fnExactCellAllSpec)

/-- 'laws.FnExactRunFind', WHERE WHAT IT READS IS OF BULK AT MOST 1048576: true; the input reads as it did. -/
def fnExactRunFindUptoRow : OpenClaim := { program := "ythhiahjafhkbbaa", sum := "e23c9d78ea3a3f3acf87b508990c0546fd01953daeb5b6322c912ded50b4dc49", func := "loop.example/comptoir/laws.FnExactRunFind", spec := "fnExactRunFind", inPlace := ["internal/bytealg.abigen_runtime_cmpstring"], unfollowed := true, recurses := true, apart := false, narrowed := true }
def FnExactRunFindUptoSaid : Prop := fnExactRunFindUptoRow.holds Try.pinned (OpenSpec.upto fnExactRunFindSpec)

/-- 'laws.FnSquash', WHERE WHAT IT READS IS OF BULK AT MOST 1048576: true; the input reads as it did. -/
def fnSquashUptoRow : OpenClaim := { program := "ythhiahjafhkbbaa", sum := "e23c9d78ea3a3f3acf87b508990c0546fd01953daeb5b6322c912ded50b4dc49", func := "loop.example/comptoir/laws.FnSquash", spec := "fnSquash", inPlace := ["internal/bytealg.abigen_runtime_cmpstring"], unfollowed := true, recurses := true, apart := false, narrowed := true }
def FnSquashUptoSaid : Prop := fnSquashUptoRow.holds Try.pinned (OpenSpec.upto fnSquashSpec)

/-- 'laws.FnSquashOn', WHERE WHAT IT READS IS OF BULK AT MOST 1048576: true; the input reads as it did. -/
def fnSquashOnUptoRow : OpenClaim := { program := "ythhiahjafhkbbaa", sum := "e23c9d78ea3a3f3acf87b508990c0546fd01953daeb5b6322c912ded50b4dc49", func := "loop.example/comptoir/laws.FnSquashOn", spec := "fnSquashOn", inPlace := ["internal/bytealg.abigen_runtime_cmpstring"], unfollowed := true, recurses := true, apart := false, narrowed := true }
def FnSquashOnUptoSaid : Prop := fnSquashOnUptoRow.holds Try.pinned (OpenSpec.upto fnSquashOnSpec)

/-- 'laws.FnSquashTwice', WHERE WHAT IT READS IS OF BULK AT MOST 1048576: true; the input reads as it did. -/
def fnSquashTwiceUptoRow : OpenClaim := { program := "ythhiahjafhkbbaa", sum := "e23c9d78ea3a3f3acf87b508990c0546fd01953daeb5b6322c912ded50b4dc49", func := "loop.example/comptoir/laws.FnSquashTwice", spec := "fnSquashTwice", inPlace := ["internal/bytealg.abigen_runtime_cmpstring"], unfollowed := true, recurses := true, apart := false, narrowed := true }
def FnSquashTwiceUptoSaid : Prop := fnSquashTwiceUptoRow.holds Try.pinned (OpenSpec.upto fnSquashTwiceSpec)

/-- 'laws.FnSquashTimes', WHERE WHAT IT READS IS OF BULK AT MOST 1048576: true; the input reads as it did. -/
def fnSquashTimesUptoRow : OpenClaim := { program := "ythhiahjafhkbbaa", sum := "e23c9d78ea3a3f3acf87b508990c0546fd01953daeb5b6322c912ded50b4dc49", func := "loop.example/comptoir/laws.FnSquashTimes", spec := "fnSquashTimes", inPlace := ["internal/bytealg.abigen_runtime_cmpstring"], unfollowed := true, recurses := true, apart := false, narrowed := true }
def FnSquashTimesUptoSaid : Prop := fnSquashTimesUptoRow.holds Try.pinned (OpenSpec.upto fnSquashTimesSpec)

/-- 'laws.FnSquashFew', WHERE WHAT IT READS IS OF BULK AT MOST 1048576: true; the input reads as it did. -/
def fnSquashFewUptoRow : OpenClaim := { program := "ythhiahjafhkbbaa", sum := "e23c9d78ea3a3f3acf87b508990c0546fd01953daeb5b6322c912ded50b4dc49", func := "loop.example/comptoir/laws.FnSquashFew", spec := "fnSquashFew", inPlace := ["internal/bytealg.abigen_runtime_cmpstring"], unfollowed := true, recurses := true, apart := false, narrowed := true }
def FnSquashFewUptoSaid : Prop := fnSquashFewUptoRow.holds Try.pinned (OpenSpec.upto fnSquashFewSpec)

end Rows
end Go.Proofs.Ythhiahjafhkbbaa
