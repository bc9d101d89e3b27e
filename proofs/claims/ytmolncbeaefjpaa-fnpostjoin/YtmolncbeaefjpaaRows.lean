/-
  No cell of these rows narrows 'for every input' (looked for: loops, veiled, ifaces, maps, wideKeys, modest, calm, conditions, laid).
  DERIVED. THE GIVEN ROWS OF THIS SEAT. 8 by the template 'for every input the law returns true; each argument reads behind the call as it read before'; 0 by the template 'total and deterministic' (their statements: YtmolncbeaefjpaaTotals.lean).
  GIVEN WITH THE SEED: the statements are not yours to turn. If you find one false, say at which input.
  Laid BY PROGRAM, IN A SANDBOX (cutbox-rows.mjs): the forced cells as the released guide's own fill.sh prints them over the translation 76009044e07c5c72… (all of the seat's roots in one cut). By AI agents, Wed Nov 11 2026. No macro, syntax, notation, axiom, sorry.
-/
import Derived.Test.YtmolncbeaefjpaaChecked
import GoSem.Claim
import GoSem.ClaimJoined
import GoSem.ClaimMapViews
import Derived.JoinedTies
import Derived.KernelRfl
namespace Go.Proofs.Ytmolncbeaefjpaa
/- THE CELL 'sum', in the pinned program and in every row, IS THE sha256 OF THE DUMP (.gsa) THAT YtmolncbeaefjpaaProg.lean LOADS. Nothing in Lean hashes anything: it is a label: what it is worth is what the hold of that sum in a sandbox is worth. -/
noncomputable def Try.pinned : Pinned := { name := "ytmolncbeaefjpaa", sum := "76009044e07c5c72ecd98d30d59e04ef9aa1816a8d1850a8320fe61ee2efe323", checked := Try.checked }
namespace Rows
def none {H : Type} : Left H := { results := [], args := [] }

/-- 'laws.FnPostTurn': WHATEVER THE INPUT: true; the input reads as it did. -/
def fnPostTurnSpec : ChangeSpec := { name := "fnPostTurn", fn := fun _ => fun
  | [d] => { results := [.lit (.bool true)], args := [d] }
  | _ => none }
def fnPostTurnRow : OpenClaim := { program := "ytmolncbeaefjpaa", sum := "76009044e07c5c72ecd98d30d59e04ef9aa1816a8d1850a8320fe61ee2efe323", func := "loop.example/comptoir/laws.FnPostTurn", spec := "fnPostTurn", unfollowed := true, recurses := true, plainKeys := false, apart := false }
def FnPostTurnSaid : Prop := fnPostTurnRow.holds Try.pinned (OpenSpec.ofChange fnPostTurnSpec)

/-- ITS FALSE NEIGHBOUR: 'it returns false'. Refute it at one input. -/
def fnPostTurnWrong : ChangeSpec := { name := "fnPostTurn", fn := fun _ => fun
  | [d] => { results := [.lit (.bool false)], args := [d] }
  | _ => none }
def FnPostTurnWrongFalsely : Prop := fnPostTurnRow.holds Try.pinned (OpenSpec.ofChange fnPostTurnWrong)

/-- 'laws.FnPostJoin': WHATEVER THE INPUT: true; the input reads as it did. -/
def fnPostJoinSpec : ChangeSpec := { name := "fnPostJoin", fn := fun _ => fun
  | [d1, d2] => { results := [.lit (.bool true)], args := [d1, d2] }
  | _ => none }
def fnPostJoinRow : OpenClaim := { program := "ytmolncbeaefjpaa", sum := "76009044e07c5c72ecd98d30d59e04ef9aa1816a8d1850a8320fe61ee2efe323", func := "loop.example/comptoir/laws.FnPostJoin", spec := "fnPostJoin", unfollowed := true, recurses := true, plainKeys := false, apart := false }
def FnPostJoinSaid : Prop := fnPostJoinRow.holds Try.pinned (OpenSpec.ofChange fnPostJoinSpec)

/-- ITS FALSE NEIGHBOUR: 'it returns false'. Refute it at one input. -/
def fnPostJoinWrong : ChangeSpec := { name := "fnPostJoin", fn := fun _ => fun
  | [d1, d2] => { results := [.lit (.bool false)], args := [d1, d2] }
  | _ => none }
def FnPostJoinWrongFalsely : Prop := fnPostJoinRow.holds Try.pinned (OpenSpec.ofChange fnPostJoinWrong)

/-- 'laws.FnPostFair': WHATEVER THE INPUT: true; the input reads as it did. -/
def fnPostFairSpec : ChangeSpec := { name := "fnPostFair", fn := fun _ => fun
  | [d] => { results := [.lit (.bool true)], args := [d] }
  | _ => none }
def fnPostFairRow : OpenClaim := { program := "ytmolncbeaefjpaa", sum := "76009044e07c5c72ecd98d30d59e04ef9aa1816a8d1850a8320fe61ee2efe323", func := "loop.example/comptoir/laws.FnPostFair", spec := "fnPostFair", unfollowed := true, recurses := true, plainKeys := false, apart := false }
def FnPostFairSaid : Prop := fnPostFairRow.holds Try.pinned (OpenSpec.ofChange fnPostFairSpec)

/-- ITS FALSE NEIGHBOUR: 'it returns false'. Refute it at one input. -/
def fnPostFairWrong : ChangeSpec := { name := "fnPostFair", fn := fun _ => fun
  | [d] => { results := [.lit (.bool false)], args := [d] }
  | _ => none }
def FnPostFairWrongFalsely : Prop := fnPostFairRow.holds Try.pinned (OpenSpec.ofChange fnPostFairWrong)

/-- 'laws.FnPostBent': WHATEVER THE INPUT: true; the input reads as it did. -/
def fnPostBentSpec : ChangeSpec := { name := "fnPostBent", fn := fun _ => fun
  | [d] => { results := [.lit (.bool true)], args := [d] }
  | _ => none }
def fnPostBentRow : OpenClaim := { program := "ytmolncbeaefjpaa", sum := "76009044e07c5c72ecd98d30d59e04ef9aa1816a8d1850a8320fe61ee2efe323", func := "loop.example/comptoir/laws.FnPostBent", spec := "fnPostBent", plainKeys := false, apart := false }
def FnPostBentSaid : Prop := fnPostBentRow.holds Try.pinned (OpenSpec.ofChange fnPostBentSpec)

/-- ITS FALSE NEIGHBOUR: 'it returns false'. Refute it at one input. -/
def fnPostBentWrong : ChangeSpec := { name := "fnPostBent", fn := fun _ => fun
  | [d] => { results := [.lit (.bool false)], args := [d] }
  | _ => none }
def FnPostBentWrongFalsely : Prop := fnPostBentRow.holds Try.pinned (OpenSpec.ofChange fnPostBentWrong)

/-- 'laws.FnExactBookSame': WHATEVER THE INPUT: true; the input reads as it did. -/
def fnExactBookSameSpec : ChangeSpec := { name := "fnExactBookSame", fn := fun _ => fun
  | [d1, d2] => { results := [.lit (.bool true)], args := [d1, d2] }
  | _ => none }
def fnExactBookSameRow : OpenClaim := { program := "ytmolncbeaefjpaa", sum := "76009044e07c5c72ecd98d30d59e04ef9aa1816a8d1850a8320fe61ee2efe323", func := "loop.example/comptoir/laws.FnExactBookSame", spec := "fnExactBookSame", unfollowed := true, recurses := true, plainKeys := false, apart := false }
def FnExactBookSameSaid : Prop := fnExactBookSameRow.holds Try.pinned (OpenSpec.ofChange fnExactBookSameSpec)

/-- ITS FALSE NEIGHBOUR: 'it returns false'. Refute it at one input. -/
def fnExactBookSameWrong : ChangeSpec := { name := "fnExactBookSame", fn := fun _ => fun
  | [d1, d2] => { results := [.lit (.bool false)], args := [d1, d2] }
  | _ => none }
def FnExactBookSameWrongFalsely : Prop := fnExactBookSameRow.holds Try.pinned (OpenSpec.ofChange fnExactBookSameWrong)

/-- 'laws.FnExactBookBal': WHATEVER THE INPUT: true; the input reads as it did. -/
def fnExactBookBalSpec : ChangeSpec := { name := "fnExactBookBal", fn := fun _ => fun
  | [d1, d2, d3] => { results := [.lit (.bool true)], args := [d1, d2, d3] }
  | _ => none }
def fnExactBookBalRow : OpenClaim := { program := "ytmolncbeaefjpaa", sum := "76009044e07c5c72ecd98d30d59e04ef9aa1816a8d1850a8320fe61ee2efe323", func := "loop.example/comptoir/laws.FnExactBookBal", spec := "fnExactBookBal", inPlace := ["slices.overlaps[string]"], unfollowed := true, recurses := true, plainKeys := false, apart := false }
def FnExactBookBalSaid : Prop := fnExactBookBalRow.holds Try.pinned (OpenSpec.ofChange fnExactBookBalSpec)

/-- ITS FALSE NEIGHBOUR: 'it returns false'. Refute it at one input. -/
def fnExactBookBalWrong : ChangeSpec := { name := "fnExactBookBal", fn := fun _ => fun
  | [d1, d2, d3] => { results := [.lit (.bool false)], args := [d1, d2, d3] }
  | _ => none }
def FnExactBookBalWrongFalsely : Prop := fnExactBookBalRow.holds Try.pinned (OpenSpec.ofChange fnExactBookBalWrong)

/-- 'laws.FnExactBookSides': WHATEVER THE INPUT: true; the input reads as it did. -/
def fnExactBookSidesSpec : ChangeSpec := { name := "fnExactBookSides", fn := fun _ => fun
  | [d1, d2] => { results := [.lit (.bool true)], args := [d1, d2] }
  | _ => none }
def fnExactBookSidesRow : OpenClaim := { program := "ytmolncbeaefjpaa", sum := "76009044e07c5c72ecd98d30d59e04ef9aa1816a8d1850a8320fe61ee2efe323", func := "loop.example/comptoir/laws.FnExactBookSides", spec := "fnExactBookSides", inPlace := ["slices.overlaps[string]"], unfollowed := true, recurses := true, plainKeys := false, apart := false }
def FnExactBookSidesSaid : Prop := fnExactBookSidesRow.holds Try.pinned (OpenSpec.ofChange fnExactBookSidesSpec)

/-- ITS FALSE NEIGHBOUR: 'it returns false'. Refute it at one input. -/
def fnExactBookSidesWrong : ChangeSpec := { name := "fnExactBookSides", fn := fun _ => fun
  | [d1, d2] => { results := [.lit (.bool false)], args := [d1, d2] }
  | _ => none }
def FnExactBookSidesWrongFalsely : Prop := fnExactBookSidesRow.holds Try.pinned (OpenSpec.ofChange fnExactBookSidesWrong)

/-- 'laws.FnExactBookAccts': WHATEVER THE INPUT: true; the input reads as it did. -/
def fnExactBookAcctsSpec : ChangeSpec := { name := "fnExactBookAccts", fn := fun _ => fun
  | [d] => { results := [.lit (.bool true)], args := [d] }
  | _ => none }
def fnExactBookAcctsRow : OpenClaim := { program := "ytmolncbeaefjpaa", sum := "76009044e07c5c72ecd98d30d59e04ef9aa1816a8d1850a8320fe61ee2efe323", func := "loop.example/comptoir/laws.FnExactBookAccts", spec := "fnExactBookAccts", inPlace := ["slices.overlaps[string]"], unfollowed := true, recurses := true, plainKeys := false, apart := false }
def FnExactBookAcctsSaid : Prop := fnExactBookAcctsRow.holds Try.pinned (OpenSpec.ofChange fnExactBookAcctsSpec)

/-- ITS FALSE NEIGHBOUR: 'it returns false'. Refute it at one input. -/
def fnExactBookAcctsWrong : ChangeSpec := { name := "fnExactBookAccts", fn := fun _ => fun
  | [d] => { results := [.lit (.bool false)], args := [d] }
  | _ => none }
def FnExactBookAcctsWrongFalsely : Prop := fnExactBookAcctsRow.holds Try.pinned (OpenSpec.ofChange fnExactBookAcctsWrong)

/- THE SECOND FORM. 'bulk': how many values and letters a reading holds, each counted each time it is reached (what is shared counts as often as it is met; a slice's spare places count too). A statement '..UptoSaid' is the law's where the arguments, and the package variables that the reading takes, are together of bulk at most 1048576: NARROWER than '..Said'. Prove '..Said' where nothing that the law and all that it calls make is longer than what came in: it says more and counts as full. Else prove '..UptoSaid'. A law counts once. -/
mutual
def uptoBulk {H : Type} : DataW H → Nat
  | .lit (.string bytes) => bytes.length + 1
  | .lit _ => 1
  | .nil => 1
  | .ptr d => uptoBulk d + 1
  | .slice elems spare => uptoBulkAll elems + uptoBulkAll spare + 1
  | .agg parts => uptoBulkAll parts + 1
  | .iface _ d => uptoBulk d + 1
  | .map entries => uptoBulkEntries entries + 1
  | .held _ => 1
def uptoBulkAll {H : Type} : List (DataW H) → Nat
  | [] => 0
  | d :: r => uptoBulk d + uptoBulkAll r
def uptoBulkEntries {H : Type} : List (Lit × DataW H) → Nat
  | [] => 0
  | x :: r => uptoBulkEntry x + uptoBulkEntries r
def uptoBulkEntry {H : Type} : Lit × DataW H → Nat
  | (.string bytes, d) => bytes.length + uptoBulk d + 1
  | (_, d) => uptoBulk d + 1
 end
def uptoSmall : (H : Type) → List (DataW H) → Bool := fun _ ds => decide (uptoBulkAll ds ≤ 1048576)
def OpenSpec.upto (s : _root_.Go.ChangeSpec) : _root_.Go.OpenSpec := { _root_.Go.OpenSpec.ofChange s with cond := some uptoSmall }

/-- 'laws.FnPostTurn', WHERE WHAT IT READS IS OF BULK AT MOST 1048576: true; the input reads as it did. -/
def fnPostTurnUptoRow : OpenClaim := { program := "ytmolncbeaefjpaa", sum := "76009044e07c5c72ecd98d30d59e04ef9aa1816a8d1850a8320fe61ee2efe323", func := "loop.example/comptoir/laws.FnPostTurn", spec := "fnPostTurn", unfollowed := true, recurses := true, plainKeys := false, apart := false, narrowed := true }
def FnPostTurnUptoSaid : Prop := fnPostTurnUptoRow.holds Try.pinned (OpenSpec.upto fnPostTurnSpec)

/-- 'laws.FnPostJoin', WHERE WHAT IT READS IS OF BULK AT MOST 1048576: true; the input reads as it did. -/
def fnPostJoinUptoRow : OpenClaim := { program := "ytmolncbeaefjpaa", sum := "76009044e07c5c72ecd98d30d59e04ef9aa1816a8d1850a8320fe61ee2efe323", func := "loop.example/comptoir/laws.FnPostJoin", spec := "fnPostJoin", unfollowed := true, recurses := true, plainKeys := false, apart := false, narrowed := true }
def FnPostJoinUptoSaid : Prop := fnPostJoinUptoRow.holds Try.pinned (OpenSpec.upto fnPostJoinSpec)

/-- 'laws.FnPostFair', WHERE WHAT IT READS IS OF BULK AT MOST 1048576: true; the input reads as it did. -/
def fnPostFairUptoRow : OpenClaim := { program := "ytmolncbeaefjpaa", sum := "76009044e07c5c72ecd98d30d59e04ef9aa1816a8d1850a8320fe61ee2efe323", func := "loop.example/comptoir/laws.FnPostFair", spec := "fnPostFair", unfollowed := true, recurses := true, plainKeys := false, apart := false, narrowed := true }
def FnPostFairUptoSaid : Prop := fnPostFairUptoRow.holds Try.pinned (OpenSpec.upto fnPostFairSpec)

/-- 'laws.FnPostBent', WHERE WHAT IT READS IS OF BULK AT MOST 1048576: true; the input reads as it did. -/
def fnPostBentUptoRow : OpenClaim := { program := "ytmolncbeaefjpaa", sum := "76009044e07c5c72ecd98d30d59e04ef9aa1816a8d1850a8320fe61ee2efe323", func := "loop.example/comptoir/laws.FnPostBent", spec := "fnPostBent", plainKeys := false, apart := false, narrowed := true }
def FnPostBentUptoSaid : Prop := fnPostBentUptoRow.holds Try.pinned (OpenSpec.upto fnPostBentSpec)

/-- 'laws.FnExactBookSame', WHERE WHAT IT READS IS OF BULK AT MOST 1048576: true; the input reads as it did. -/
def fnExactBookSameUptoRow : OpenClaim := { program := "ytmolncbeaefjpaa", sum := "76009044e07c5c72ecd98d30d59e04ef9aa1816a8d1850a8320fe61ee2efe323", func := "loop.example/comptoir/laws.FnExactBookSame", spec := "fnExactBookSame", unfollowed := true, recurses := true, plainKeys := false, apart := false, narrowed := true }
def FnExactBookSameUptoSaid : Prop := fnExactBookSameUptoRow.holds Try.pinned (OpenSpec.upto fnExactBookSameSpec)

/-- 'laws.FnExactBookBal', WHERE WHAT IT READS IS OF BULK AT MOST 1048576: true; the input reads as it did. -/
def fnExactBookBalUptoRow : OpenClaim := { program := "ytmolncbeaefjpaa", sum := "76009044e07c5c72ecd98d30d59e04ef9aa1816a8d1850a8320fe61ee2efe323", func := "loop.example/comptoir/laws.FnExactBookBal", spec := "fnExactBookBal", inPlace := ["slices.overlaps[string]"], unfollowed := true, recurses := true, plainKeys := false, apart := false, narrowed := true }
def FnExactBookBalUptoSaid : Prop := fnExactBookBalUptoRow.holds Try.pinned (OpenSpec.upto fnExactBookBalSpec)

/-- 'laws.FnExactBookSides', WHERE WHAT IT READS IS OF BULK AT MOST 1048576: true; the input reads as it did. -/
def fnExactBookSidesUptoRow : OpenClaim := { program := "ytmolncbeaefjpaa", sum := "76009044e07c5c72ecd98d30d59e04ef9aa1816a8d1850a8320fe61ee2efe323", func := "loop.example/comptoir/laws.FnExactBookSides", spec := "fnExactBookSides", inPlace := ["slices.overlaps[string]"], unfollowed := true, recurses := true, plainKeys := false, apart := false, narrowed := true }
def FnExactBookSidesUptoSaid : Prop := fnExactBookSidesUptoRow.holds Try.pinned (OpenSpec.upto fnExactBookSidesSpec)

/-- 'laws.FnExactBookAccts', WHERE WHAT IT READS IS OF BULK AT MOST 1048576: true; the input reads as it did. -/
def fnExactBookAcctsUptoRow : OpenClaim := { program := "ytmolncbeaefjpaa", sum := "76009044e07c5c72ecd98d30d59e04ef9aa1816a8d1850a8320fe61ee2efe323", func := "loop.example/comptoir/laws.FnExactBookAccts", spec := "fnExactBookAccts", inPlace := ["slices.overlaps[string]"], unfollowed := true, recurses := true, plainKeys := false, apart := false, narrowed := true }
def FnExactBookAcctsUptoSaid : Prop := fnExactBookAcctsUptoRow.holds Try.pinned (OpenSpec.upto fnExactBookAcctsSpec)

end Rows
end Go.Proofs.Ytmolncbeaefjpaa
