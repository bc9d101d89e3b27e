/-
  No cell of these rows narrows 'for every input' (looked for: loops, veiled, ifaces, maps, wideKeys, modest, calm, conditions, laid).
  DERIVED. THE GIVEN ROWS OF THIS SEAT. 6 by the template 'for every input the law returns true; each argument reads behind the call as it read before'; 0 by the template 'total and deterministic' (their statements: YtkhnknpacdmikaaTotals.lean).
  GIVEN WITH THE SEED: the statements are not yours to turn. If you find one false, say at which input.
  Laid BY PROGRAM, IN A SANDBOX (cutbox-rows.mjs): the forced cells as the released guide's own fill.sh prints them over the translation e5c6b877989ad29f… (all of the seat's roots in one cut). By AI agents, Wed Nov 11 2026. No macro, syntax, notation, axiom, sorry.
-/
import Derived.Test.YtkhnknpacdmikaaChecked
import GoSem.Claim
import GoSem.ClaimJoined
import GoSem.ClaimMapViews
import Derived.JoinedTies
import Derived.KernelRfl
namespace Go.Proofs.Ytkhnknpacdmikaa
/- THE CELL 'sum', in the pinned program and in every row, IS THE sha256 OF THE DUMP (.gsa) THAT YtkhnknpacdmikaaProg.lean LOADS. Nothing in Lean hashes anything: it is a label: what it is worth is what the hold of that sum in a sandbox is worth. -/
noncomputable def Try.pinned : Pinned := { name := "ytkhnknpacdmikaa", sum := "e5c6b877989ad29fe5ffc029ba0861b7024470c445898c457620f93b855d3e19", checked := Try.checked }
namespace Rows
def none {H : Type} : Left H := { results := [], args := [] }

/-- 'laws.FnRunOf': WHATEVER THE INPUT: true; the input reads as it did. -/
def fnRunOfSpec : ChangeSpec := { name := "fnRunOf", fn := fun _ => fun
  | [d] => { results := [.lit (.bool true)], args := [d] }
  | _ => none }
def fnRunOfRow : OpenClaim := { program := "ytkhnknpacdmikaa", sum := "e5c6b877989ad29fe5ffc029ba0861b7024470c445898c457620f93b855d3e19", func := "loop.example/comptoir/laws.FnRunOf", spec := "fnRunOf", inPlace := ["internal/bytealg.abigen_runtime_cmpstring"], unfollowed := true, recurses := true, plainKeys := false, apart := false }
def FnRunOfSaid : Prop := fnRunOfRow.holds Try.pinned (OpenSpec.ofChange fnRunOfSpec)

/-- ITS FALSE NEIGHBOUR: 'it returns false'. Refute it at one input. -/
def fnRunOfWrong : ChangeSpec := { name := "fnRunOf", fn := fun _ => fun
  | [d] => { results := [.lit (.bool false)], args := [d] }
  | _ => none }
def FnRunOfWrongFalsely : Prop := fnRunOfRow.holds Try.pinned (OpenSpec.ofChange fnRunOfWrong)

/-- 'laws.FnRunMay': WHATEVER THE INPUT: true; the input reads as it did. -/
def fnRunMaySpec : ChangeSpec := { name := "fnRunMay", fn := fun _ => fun
  | [d] => { results := [.lit (.bool true)], args := [d] }
  | _ => none }
def fnRunMayRow : OpenClaim := { program := "ytkhnknpacdmikaa", sum := "e5c6b877989ad29fe5ffc029ba0861b7024470c445898c457620f93b855d3e19", func := "loop.example/comptoir/laws.FnRunMay", spec := "fnRunMay", inPlace := ["internal/bytealg.abigen_runtime_cmpstring"], unfollowed := true, recurses := true, plainKeys := false, apart := false }
def FnRunMaySaid : Prop := fnRunMayRow.holds Try.pinned (OpenSpec.ofChange fnRunMaySpec)

/-- ITS FALSE NEIGHBOUR: 'it returns false'. Refute it at one input. -/
def fnRunMayWrong : ChangeSpec := { name := "fnRunMay", fn := fun _ => fun
  | [d] => { results := [.lit (.bool false)], args := [d] }
  | _ => none }
def FnRunMayWrongFalsely : Prop := fnRunMayRow.holds Try.pinned (OpenSpec.ofChange fnRunMayWrong)

/-- 'laws.FnRunMore': WHATEVER THE INPUT: true; the input reads as it did. -/
def fnRunMoreSpec : ChangeSpec := { name := "fnRunMore", fn := fun _ => fun
  | [d] => { results := [.lit (.bool true)], args := [d] }
  | _ => none }
def fnRunMoreRow : OpenClaim := { program := "ytkhnknpacdmikaa", sum := "e5c6b877989ad29fe5ffc029ba0861b7024470c445898c457620f93b855d3e19", func := "loop.example/comptoir/laws.FnRunMore", spec := "fnRunMore", inPlace := ["internal/bytealg.abigen_runtime_cmpstring"], unfollowed := true, recurses := true, plainKeys := false, apart := false }
def FnRunMoreSaid : Prop := fnRunMoreRow.holds Try.pinned (OpenSpec.ofChange fnRunMoreSpec)

/-- ITS FALSE NEIGHBOUR: 'it returns false'. Refute it at one input. -/
def fnRunMoreWrong : ChangeSpec := { name := "fnRunMore", fn := fun _ => fun
  | [d] => { results := [.lit (.bool false)], args := [d] }
  | _ => none }
def FnRunMoreWrongFalsely : Prop := fnRunMoreRow.holds Try.pinned (OpenSpec.ofChange fnRunMoreWrong)

/-- 'laws.FnRunCut': WHATEVER THE INPUT: true; the input reads as it did. -/
def fnRunCutSpec : ChangeSpec := { name := "fnRunCut", fn := fun _ => fun
  | [d1, d2] => { results := [.lit (.bool true)], args := [d1, d2] }
  | _ => none }
def fnRunCutRow : OpenClaim := { program := "ytkhnknpacdmikaa", sum := "e5c6b877989ad29fe5ffc029ba0861b7024470c445898c457620f93b855d3e19", func := "loop.example/comptoir/laws.FnRunCut", spec := "fnRunCut", inPlace := ["internal/bytealg.abigen_runtime_cmpstring"], unfollowed := true, recurses := true, plainKeys := false, apart := false }
def FnRunCutSaid : Prop := fnRunCutRow.holds Try.pinned (OpenSpec.ofChange fnRunCutSpec)

/-- ITS FALSE NEIGHBOUR: 'it returns false'. Refute it at one input. -/
def fnRunCutWrong : ChangeSpec := { name := "fnRunCut", fn := fun _ => fun
  | [d1, d2] => { results := [.lit (.bool false)], args := [d1, d2] }
  | _ => none }
def FnRunCutWrongFalsely : Prop := fnRunCutRow.holds Try.pinned (OpenSpec.ofChange fnRunCutWrong)

/-- 'laws.FnExactBookAccts': WHATEVER THE INPUT: true; the input reads as it did. -/
def fnExactBookAcctsSpec : ChangeSpec := { name := "fnExactBookAccts", fn := fun _ => fun
  | [d] => { results := [.lit (.bool true)], args := [d] }
  | _ => none }
def fnExactBookAcctsRow : OpenClaim := { program := "ytkhnknpacdmikaa", sum := "e5c6b877989ad29fe5ffc029ba0861b7024470c445898c457620f93b855d3e19", func := "loop.example/comptoir/laws.FnExactBookAccts", spec := "fnExactBookAccts", inPlace := ["slices.overlaps[string]"], unfollowed := true, recurses := true, plainKeys := false, apart := false }
def FnExactBookAcctsSaid : Prop := fnExactBookAcctsRow.holds Try.pinned (OpenSpec.ofChange fnExactBookAcctsSpec)

/-- ITS FALSE NEIGHBOUR: 'it returns false'. Refute it at one input. -/
def fnExactBookAcctsWrong : ChangeSpec := { name := "fnExactBookAccts", fn := fun _ => fun
  | [d] => { results := [.lit (.bool false)], args := [d] }
  | _ => none }
def FnExactBookAcctsWrongFalsely : Prop := fnExactBookAcctsRow.holds Try.pinned (OpenSpec.ofChange fnExactBookAcctsWrong)

/-- 'laws.FnExactRunFind': WHATEVER THE INPUT: true; the input reads as it did. -/
def fnExactRunFindSpec : ChangeSpec := { name := "fnExactRunFind", fn := fun _ => fun
  | [d1, d2, d3] => { results := [.lit (.bool true)], args := [d1, d2, d3] }
  | _ => none }
def fnExactRunFindRow : OpenClaim := { program := "ytkhnknpacdmikaa", sum := "e5c6b877989ad29fe5ffc029ba0861b7024470c445898c457620f93b855d3e19", func := "loop.example/comptoir/laws.FnExactRunFind", spec := "fnExactRunFind", inPlace := ["internal/bytealg.abigen_runtime_cmpstring"], unfollowed := true, recurses := true, plainKeys := false, apart := false }
def FnExactRunFindSaid : Prop := fnExactRunFindRow.holds Try.pinned (OpenSpec.ofChange fnExactRunFindSpec)

/-- ITS FALSE NEIGHBOUR: 'it returns false'. Refute it at one input. -/
def fnExactRunFindWrong : ChangeSpec := { name := "fnExactRunFind", fn := fun _ => fun
  | [d1, d2, d3] => { results := [.lit (.bool false)], args := [d1, d2, d3] }
  | _ => none }
def FnExactRunFindWrongFalsely : Prop := fnExactRunFindRow.holds Try.pinned (OpenSpec.ofChange fnExactRunFindWrong)

/- THE SECOND FORM. 'bulk': how many values and letters a reading holds, each counted each time it is reached (what is shared counts as often as it is met; a slice's spare places count too). A statement '..UptoSaid' is the law's where the arguments, and the package variables that the reading takes, are together of bulk at most 1048576: NARROWER than '..Said'. Prove '..Said' where nothing that the law and all that it calls make is longer than what came in: it says more and counts as full. Else prove '..UptoSaid'. A law counts once. -/
mutual
def uptoBulk {H : Type} : DataW H → Nat
  | .lit (.string bytes) => bytes.length + 1
  | .lit _ => 1
  | .nil => 1
  | .ptr d => uptoBulk d + 1
  | .slice elems spare => uptoBulkAll elems + uptoBulkAll spare + 1
  | .agg parts => uptoBulkAll parts + 1
  | .iface _ d => uptoBulk d + 1
  | .map entries => uptoBulkEntries entries + 1
  | .held _ => 1
def uptoBulkAll {H : Type} : List (DataW H) → Nat
  | [] => 0
  | d :: r => uptoBulk d + uptoBulkAll r
def uptoBulkEntries {H : Type} : List (Lit × DataW H) → Nat
  | [] => 0
  | x :: r => uptoBulkEntry x + uptoBulkEntries r
def uptoBulkEntry {H : Type} : Lit × DataW H → Nat
  | (.string bytes, d) => bytes.length + uptoBulk d + 1
  | (_, d) => uptoBulk d + 1
 end
def uptoSmall : (H : Type) → List (DataW H) → Bool := fun _ ds => decide (uptoBulkAll ds ≤ 1048576)
def OpenSpec.upto (s : _root_.Go.ChangeSpec) : _root_.Go.OpenSpec := { _root_.Go.OpenSpec.ofChange s with cond := some uptoSmall }

/-- 'laws.FnRunOf', WHERE WHAT IT READS IS OF BULK AT MOST 1048576: true; the input reads as it did. -/
def fnRunOfUptoRow : OpenClaim := { program := "ytkhnknpacdmikaa", sum := "e5c6b877989ad29fe5ffc029ba0861b7024470c445898c457620f93b855d3e19", func := "loop.example/comptoir/laws.FnRunOf", spec := "fnRunOf", inPlace := ["internal/bytealg.abigen_runtime_cmpstring"], unfollowed := true, recurses := true, plainKeys := false, apart := false, narrowed := true }
def FnRunOfUptoSaid : Prop := fnRunOfUptoRow.holds Try.pinned (OpenSpec.upto fnRunOfSpec)

/-- 'laws.FnRunMay', WHERE WHAT IT READS IS OF BULK AT MOST 1048576: true; the input reads as it did. -/
def fnRunMayUptoRow : OpenClaim := { program := "ytkhnknpacdmikaa", sum := "e5c6b877989ad29fe5ffc029ba0861b7024470c445898c457620f93b855d3e19", func := "loop.example/comptoir/laws.FnRunMay", spec := "fnRunMay", inPlace := ["internal/bytealg.abigen_runtime_cmpstring"], unfollowed := true, recurses := true, plainKeys := false, apart := false, narrowed := true }
def FnRunMayUptoSaid : Prop := fnRunMayUptoRow.holds Try.pinned (OpenSpec.upto fnRunMaySpec)

/-- 'laws.FnRunMore', WHERE WHAT IT READS IS OF BULK AT MOST 1048576: true; the input reads as it did. -/
def fnRunMoreUptoRow : OpenClaim := { program := "ytkhnknpacdmikaa", sum := "e5c6b877989ad29fe5ffc029ba0861b7024470c445898c457620f93b855d3e19", func := "loop.example/comptoir/laws.FnRunMore", spec := "fnRunMore", inPlace := ["internal/bytealg.abigen_runtime_cmpstring"], unfollowed := true, recurses := true, plainKeys := false, apart := false, narrowed := true }
def FnRunMoreUptoSaid : Prop := fnRunMoreUptoRow.holds Try.pinned (OpenSpec.upto fnRunMoreSpec)

/-- 'laws.FnRunCut', WHERE WHAT IT READS IS OF BULK AT MOST 1048576: true; the input reads as it did. -/
def fnRunCutUptoRow : OpenClaim := { program := "ytkhnknpacdmikaa", sum := "e5c6b877989ad29fe5ffc029ba0861b7024470c445898c457620f93b855d3e19", func := "loop.example/comptoir/laws.FnRunCut", spec := "fnRunCut", inPlace := ["internal/bytealg.abigen_runtime_cmpstring"], unfollowed := true, recurses := true, plainKeys := false, apart := false, narrowed := true }
def FnRunCutUptoSaid : Prop := fnRunCutUptoRow.holds Try.pinned (OpenSpec.upto fnRunCutSpec)

/-- 'laws.FnExactBookAccts', WHERE WHAT IT READS IS OF BULK AT MOST 1048576: true; the input reads as it did. -/
def fnExactBookAcctsUptoRow : OpenClaim := { program := "ytkhnknpacdmikaa", sum := "e5c6b877989ad29fe5ffc029ba0861b7024470c445898c457620f93b855d3e19", func := "loop.example/comptoir/laws.FnExactBookAccts", spec := "fnExactBookAccts", inPlace := ["slices.overlaps[string]"], unfollowed := true, recurses := true, plainKeys := false, apart := false, narrowed := true }
def FnExactBookAcctsUptoSaid : Prop := fnExactBookAcctsUptoRow.holds Try.pinned (OpenSpec.upto fnExactBookAcctsSpec)

/-- 'laws.FnExactRunFind', WHERE WHAT IT READS IS OF BULK AT MOST 1048576: true; the input reads as it did. -/
def fnExactRunFindUptoRow : OpenClaim := { program := "ytkhnknpacdmikaa", sum := "e5c6b877989ad29fe5ffc029ba0861b7024470c445898c457620f93b855d3e19", func := "loop.example/comptoir/laws.FnExactRunFind", spec := "fnExactRunFind", inPlace := ["internal/bytealg.abigen_runtime_cmpstring"], unfollowed := true, recurses := true, plainKeys := false, apart := false, narrowed := true }
def FnExactRunFindUptoSaid : Prop := fnExactRunFindUptoRow.holds Try.pinned (OpenSpec.upto fnExactRunFindSpec)

end Rows
end Go.Proofs.Ytkhnknpacdmikaa
