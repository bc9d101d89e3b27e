/-
  No cell of these rows narrows 'for every input' (looked for: loops, veiled, ifaces, maps, wideKeys, modest, calm, conditions, laid).
  DERIVED. THE GIVEN ROWS OF THIS SEAT. 12 by the template 'for every input the law returns true; each argument reads behind the call as it read before'; 0 by the template 'total and deterministic' (their statements: YtphoghhlkoglpaaTotals.lean).
  GIVEN WITH THE SEED: the statements are not yours to turn. If you find one false, say at which input.
  Laid BY PROGRAM, IN A SANDBOX (cutbox-rows.mjs): the forced cells as the released guide's own fill.sh prints them over the translation 02f1156e4ab95158… (all of the seat's roots in one cut). By AI agents, Wed Nov 11 2026. No macro, syntax, notation, axiom, sorry.
-/
import Derived.Test.YtphoghhlkoglpaaChecked
import GoSem.Claim
import GoSem.ClaimJoined
import GoSem.ClaimMapViews
import Derived.JoinedTies
import Derived.KernelRfl
namespace Go.Proofs.Ytphoghhlkoglpaa
/- THE CELL 'sum', in the pinned program and in every row, IS THE sha256 OF THE DUMP (.gsa) THAT YtphoghhlkoglpaaProg.lean LOADS. Nothing in Lean hashes anything: it is a label: what it is worth is what the hold of that sum in a sandbox is worth. -/
noncomputable def Try.pinned : Pinned := { name := "ytphoghhlkoglpaa", sum := "02f1156e4ab95158966216b9ef6b457bb900a04206433570623ca1cacde442ce", checked := Try.checked }
namespace Rows
def none {H : Type} : Left H := { results := [], args := [] }

/-- 'laws.FnPostFair': WHATEVER THE INPUT: true; the input reads as it did. -/
def fnPostFairSpec : ChangeSpec := { name := "fnPostFair", fn := fun _ => fun
  | [d] => { results := [.lit (.bool true)], args := [d] }
  | _ => none }
def fnPostFairRow : OpenClaim := { program := "ytphoghhlkoglpaa", sum := "02f1156e4ab95158966216b9ef6b457bb900a04206433570623ca1cacde442ce", func := "loop.example/comptoir/laws.FnPostFair", spec := "fnPostFair", unfollowed := true, recurses := true, apart := false }
def FnPostFairSaid : Prop := fnPostFairRow.holds Try.pinned (OpenSpec.ofChange fnPostFairSpec)

/-- ITS FALSE NEIGHBOUR: 'it returns false'. Refute it at one input. -/
def fnPostFairWrong : ChangeSpec := { name := "fnPostFair", fn := fun _ => fun
  | [d] => { results := [.lit (.bool false)], args := [d] }
  | _ => none }
def FnPostFairWrongFalsely : Prop := fnPostFairRow.holds Try.pinned (OpenSpec.ofChange fnPostFairWrong)

/-- 'laws.FnPostTo': WHATEVER THE INPUT: true; the input reads as it did. -/
def fnPostToSpec : ChangeSpec := { name := "fnPostTo", fn := fun _ => fun
  | [d] => { results := [.lit (.bool true)], args := [d] }
  | _ => none }
def fnPostToRow : OpenClaim := { program := "ytphoghhlkoglpaa", sum := "02f1156e4ab95158966216b9ef6b457bb900a04206433570623ca1cacde442ce", func := "loop.example/comptoir/laws.FnPostTo", spec := "fnPostTo", unfollowed := true, recurses := true, apart := false }
def FnPostToSaid : Prop := fnPostToRow.holds Try.pinned (OpenSpec.ofChange fnPostToSpec)

/-- ITS FALSE NEIGHBOUR: 'it returns false'. Refute it at one input. -/
def fnPostToWrong : ChangeSpec := { name := "fnPostTo", fn := fun _ => fun
  | [d] => { results := [.lit (.bool false)], args := [d] }
  | _ => none }
def FnPostToWrongFalsely : Prop := fnPostToRow.holds Try.pinned (OpenSpec.ofChange fnPostToWrong)

/-- 'laws.FnPostTurn': WHATEVER THE INPUT: true; the input reads as it did. -/
def fnPostTurnSpec : ChangeSpec := { name := "fnPostTurn", fn := fun _ => fun
  | [d] => { results := [.lit (.bool true)], args := [d] }
  | _ => none }
def fnPostTurnRow : OpenClaim := { program := "ytphoghhlkoglpaa", sum := "02f1156e4ab95158966216b9ef6b457bb900a04206433570623ca1cacde442ce", func := "loop.example/comptoir/laws.FnPostTurn", spec := "fnPostTurn", unfollowed := true, recurses := true, apart := false }
def FnPostTurnSaid : Prop := fnPostTurnRow.holds Try.pinned (OpenSpec.ofChange fnPostTurnSpec)

/-- ITS FALSE NEIGHBOUR: 'it returns false'. Refute it at one input. -/
def fnPostTurnWrong : ChangeSpec := { name := "fnPostTurn", fn := fun _ => fun
  | [d] => { results := [.lit (.bool false)], args := [d] }
  | _ => none }
def FnPostTurnWrongFalsely : Prop := fnPostTurnRow.holds Try.pinned (OpenSpec.ofChange fnPostTurnWrong)

/-- 'laws.FnPostBent': WHATEVER THE INPUT: true; the input reads as it did. -/
def fnPostBentSpec : ChangeSpec := { name := "fnPostBent", fn := fun _ => fun
  | [d] => { results := [.lit (.bool true)], args := [d] }
  | _ => none }
def fnPostBentRow : OpenClaim := { program := "ytphoghhlkoglpaa", sum := "02f1156e4ab95158966216b9ef6b457bb900a04206433570623ca1cacde442ce", func := "loop.example/comptoir/laws.FnPostBent", spec := "fnPostBent", apart := false }
def FnPostBentSaid : Prop := fnPostBentRow.holds Try.pinned (OpenSpec.ofChange fnPostBentSpec)

/-- ITS FALSE NEIGHBOUR: 'it returns false'. Refute it at one input. -/
def fnPostBentWrong : ChangeSpec := { name := "fnPostBent", fn := fun _ => fun
  | [d] => { results := [.lit (.bool false)], args := [d] }
  | _ => none }
def FnPostBentWrongFalsely : Prop := fnPostBentRow.holds Try.pinned (OpenSpec.ofChange fnPostBentWrong)

/-- 'laws.FnPostJoin': WHATEVER THE INPUT: true; the input reads as it did. -/
def fnPostJoinSpec : ChangeSpec := { name := "fnPostJoin", fn := fun _ => fun
  | [d1, d2] => { results := [.lit (.bool true)], args := [d1, d2] }
  | _ => none }
def fnPostJoinRow : OpenClaim := { program := "ytphoghhlkoglpaa", sum := "02f1156e4ab95158966216b9ef6b457bb900a04206433570623ca1cacde442ce", func := "loop.example/comptoir/laws.FnPostJoin", spec := "fnPostJoin", unfollowed := true, recurses := true, apart := false }
def FnPostJoinSaid : Prop := fnPostJoinRow.holds Try.pinned (OpenSpec.ofChange fnPostJoinSpec)

/-- ITS FALSE NEIGHBOUR: 'it returns false'. Refute it at one input. -/
def fnPostJoinWrong : ChangeSpec := { name := "fnPostJoin", fn := fun _ => fun
  | [d1, d2] => { results := [.lit (.bool false)], args := [d1, d2] }
  | _ => none }
def FnPostJoinWrongFalsely : Prop := fnPostJoinRow.holds Try.pinned (OpenSpec.ofChange fnPostJoinWrong)

/-- 'laws.FnExactAcctOk': WHATEVER THE INPUT: true; the input reads as it did. -/
def fnExactAcctOkSpec : ChangeSpec := { name := "fnExactAcctOk", fn := fun _ => fun
  | [d] => { results := [.lit (.bool true)], args := [d] }
  | _ => none }
def fnExactAcctOkRow : OpenClaim := { program := "ytphoghhlkoglpaa", sum := "02f1156e4ab95158966216b9ef6b457bb900a04206433570623ca1cacde442ce", func := "loop.example/comptoir/laws.FnExactAcctOk", spec := "fnExactAcctOk", apart := false }
def FnExactAcctOkSaid : Prop := fnExactAcctOkRow.holds Try.pinned (OpenSpec.ofChange fnExactAcctOkSpec)

/-- ITS FALSE NEIGHBOUR: 'it returns false'. Refute it at one input. -/
def fnExactAcctOkWrong : ChangeSpec := { name := "fnExactAcctOk", fn := fun _ => fun
  | [d] => { results := [.lit (.bool false)], args := [d] }
  | _ => none }
def FnExactAcctOkWrongFalsely : Prop := fnExactAcctOkRow.holds Try.pinned (OpenSpec.ofChange fnExactAcctOkWrong)

/-- 'laws.FnExactLegOk': WHATEVER THE INPUT: true; the input reads as it did. -/
def fnExactLegOkSpec : ChangeSpec := { name := "fnExactLegOk", fn := fun _ => fun
  | [d] => { results := [.lit (.bool true)], args := [d] }
  | _ => none }
def fnExactLegOkRow : OpenClaim := { program := "ytphoghhlkoglpaa", sum := "02f1156e4ab95158966216b9ef6b457bb900a04206433570623ca1cacde442ce", func := "loop.example/comptoir/laws.FnExactLegOk", spec := "fnExactLegOk", apart := false }
def FnExactLegOkSaid : Prop := fnExactLegOkRow.holds Try.pinned (OpenSpec.ofChange fnExactLegOkSpec)

/-- ITS FALSE NEIGHBOUR: 'it returns false'. Refute it at one input. -/
def fnExactLegOkWrong : ChangeSpec := { name := "fnExactLegOk", fn := fun _ => fun
  | [d] => { results := [.lit (.bool false)], args := [d] }
  | _ => none }
def FnExactLegOkWrongFalsely : Prop := fnExactLegOkRow.holds Try.pinned (OpenSpec.ofChange fnExactLegOkWrong)

/-- 'laws.FnExactPostOk': WHATEVER THE INPUT: true; the input reads as it did. -/
def fnExactPostOkSpec : ChangeSpec := { name := "fnExactPostOk", fn := fun _ => fun
  | [d] => { results := [.lit (.bool true)], args := [d] }
  | _ => none }
def fnExactPostOkRow : OpenClaim := { program := "ytphoghhlkoglpaa", sum := "02f1156e4ab95158966216b9ef6b457bb900a04206433570623ca1cacde442ce", func := "loop.example/comptoir/laws.FnExactPostOk", spec := "fnExactPostOk", apart := false }
def FnExactPostOkSaid : Prop := fnExactPostOkRow.holds Try.pinned (OpenSpec.ofChange fnExactPostOkSpec)

/-- ITS FALSE NEIGHBOUR: 'it returns false'. Refute it at one input. -/
def fnExactPostOkWrong : ChangeSpec := { name := "fnExactPostOk", fn := fun _ => fun
  | [d] => { results := [.lit (.bool false)], args := [d] }
  | _ => none }
def FnExactPostOkWrongFalsely : Prop := fnExactPostOkRow.holds Try.pinned (OpenSpec.ofChange fnExactPostOkWrong)

/-- 'laws.FnExactPostSum': WHATEVER THE INPUT: true; the input reads as it did. -/
def fnExactPostSumSpec : ChangeSpec := { name := "fnExactPostSum", fn := fun _ => fun
  | [d1, d2] => { results := [.lit (.bool true)], args := [d1, d2] }
  | _ => none }
def fnExactPostSumRow : OpenClaim := { program := "ytphoghhlkoglpaa", sum := "02f1156e4ab95158966216b9ef6b457bb900a04206433570623ca1cacde442ce", func := "loop.example/comptoir/laws.FnExactPostSum", spec := "fnExactPostSum", unfollowed := true, recurses := true, apart := false }
def FnExactPostSumSaid : Prop := fnExactPostSumRow.holds Try.pinned (OpenSpec.ofChange fnExactPostSumSpec)

/-- ITS FALSE NEIGHBOUR: 'it returns false'. Refute it at one input. -/
def fnExactPostSumWrong : ChangeSpec := { name := "fnExactPostSum", fn := fun _ => fun
  | [d1, d2] => { results := [.lit (.bool false)], args := [d1, d2] }
  | _ => none }
def FnExactPostSumWrongFalsely : Prop := fnExactPostSumRow.holds Try.pinned (OpenSpec.ofChange fnExactPostSumWrong)

/-- 'laws.FnExactPostFair': WHATEVER THE INPUT: true; the input reads as it did. -/
def fnExactPostFairSpec : ChangeSpec := { name := "fnExactPostFair", fn := fun _ => fun
  | [d] => { results := [.lit (.bool true)], args := [d] }
  | _ => none }
def fnExactPostFairRow : OpenClaim := { program := "ytphoghhlkoglpaa", sum := "02f1156e4ab95158966216b9ef6b457bb900a04206433570623ca1cacde442ce", func := "loop.example/comptoir/laws.FnExactPostFair", spec := "fnExactPostFair", unfollowed := true, recurses := true, apart := false }
def FnExactPostFairSaid : Prop := fnExactPostFairRow.holds Try.pinned (OpenSpec.ofChange fnExactPostFairSpec)

/-- ITS FALSE NEIGHBOUR: 'it returns false'. Refute it at one input. -/
def fnExactPostFairWrong : ChangeSpec := { name := "fnExactPostFair", fn := fun _ => fun
  | [d] => { results := [.lit (.bool false)], args := [d] }
  | _ => none }
def FnExactPostFairWrongFalsely : Prop := fnExactPostFairRow.holds Try.pinned (OpenSpec.ofChange fnExactPostFairWrong)

/-- 'laws.FnExactPostTo': WHATEVER THE INPUT: true; the input reads as it did. -/
def fnExactPostToSpec : ChangeSpec := { name := "fnExactPostTo", fn := fun _ => fun
  | [d1, d2, d3] => { results := [.lit (.bool true)], args := [d1, d2, d3] }
  | _ => none }
def fnExactPostToRow : OpenClaim := { program := "ytphoghhlkoglpaa", sum := "02f1156e4ab95158966216b9ef6b457bb900a04206433570623ca1cacde442ce", func := "loop.example/comptoir/laws.FnExactPostTo", spec := "fnExactPostTo", unfollowed := true, recurses := true, apart := false }
def FnExactPostToSaid : Prop := fnExactPostToRow.holds Try.pinned (OpenSpec.ofChange fnExactPostToSpec)

/-- ITS FALSE NEIGHBOUR: 'it returns false'. Refute it at one input. -/
def fnExactPostToWrong : ChangeSpec := { name := "fnExactPostTo", fn := fun _ => fun
  | [d1, d2, d3] => { results := [.lit (.bool false)], args := [d1, d2, d3] }
  | _ => none }
def FnExactPostToWrongFalsely : Prop := fnExactPostToRow.holds Try.pinned (OpenSpec.ofChange fnExactPostToWrong)

/-- 'laws.FnExactPostSame': WHATEVER THE INPUT: true; the input reads as it did. -/
def fnExactPostSameSpec : ChangeSpec := { name := "fnExactPostSame", fn := fun _ => fun
  | [d1, d2] => { results := [.lit (.bool true)], args := [d1, d2] }
  | _ => none }
def fnExactPostSameRow : OpenClaim := { program := "ytphoghhlkoglpaa", sum := "02f1156e4ab95158966216b9ef6b457bb900a04206433570623ca1cacde442ce", func := "loop.example/comptoir/laws.FnExactPostSame", spec := "fnExactPostSame", apart := false }
def FnExactPostSameSaid : Prop := fnExactPostSameRow.holds Try.pinned (OpenSpec.ofChange fnExactPostSameSpec)

/-- ITS FALSE NEIGHBOUR: 'it returns false'. Refute it at one input. -/
def fnExactPostSameWrong : ChangeSpec := { name := "fnExactPostSame", fn := fun _ => fun
  | [d1, d2] => { results := [.lit (.bool false)], args := [d1, d2] }
  | _ => none }
def FnExactPostSameWrongFalsely : Prop := fnExactPostSameRow.holds Try.pinned (OpenSpec.ofChange fnExactPostSameWrong)

/- THE SECOND FORM. 'bulk': how many values and letters a reading holds, each counted each time it is reached (what is shared counts as often as it is met; a slice's spare places count too). A statement '..UptoSaid' is the law's where the arguments, and the package variables that the reading takes, are together of bulk at most 1048576: NARROWER than '..Said'. Prove '..Said' where nothing that the law and all that it calls make is longer than what came in: it says more and counts as full. Else prove '..UptoSaid'. A law counts once. -/
mutual
def uptoBulk {H : Type} : DataW H → Nat
  | .lit (.string bytes) => bytes.length + 1
  | .lit _ => 1
  | .nil => 1
  | .ptr d => uptoBulk d + 1
  | .slice elems spare => uptoBulkAll elems + uptoBulkAll spare + 1
  | .agg parts => uptoBulkAll parts + 1
  | .iface _ d => uptoBulk d + 1
  | .map entries => uptoBulkEntries entries + 1
  | .held _ => 1
def uptoBulkAll {H : Type} : List (DataW H) → Nat
  | [] => 0
  | d :: r => uptoBulk d + uptoBulkAll r
def uptoBulkEntries {H : Type} : List (Lit × DataW H) → Nat
  | [] => 0
  | x :: r => uptoBulkEntry x + uptoBulkEntries r
def uptoBulkEntry {H : Type} : Lit × DataW H → Nat
  | (.string bytes, d) => bytes.length + uptoBulk d + 1
  | (_, d) => uptoBulk d + 1
 end
def uptoSmall : (H : Type) → List (DataW H) → Bool := fun _ ds => decide (uptoBulkAll ds ≤ 1048576)
def OpenSpec.upto (s : _root_.Go.ChangeSpec) : _root_.Go.OpenSpec := { _root_.Go.OpenSpec.ofChange s with cond := some uptoSmall }

/-- 'laws.FnPostFair', WHERE WHAT IT READS IS OF BULK AT MOST 1048576: true; the input reads as it did. -/
def fnPostFairUptoRow : OpenClaim := { program := "ytphoghhlkoglpaa", sum := "02f1156e4ab95158966216b9ef6b457bb900a04206433570623ca1cacde442ce", func := "loop.example/comptoir/laws.FnPostFair", spec := "fnPostFair", unfollowed := true, recurses := true, apart := false, narrowed := true }
def FnPostFairUptoSaid : Prop := fnPostFairUptoRow.holds Try.pinned (OpenSpec.upto fnPostFairSpec)

/-- 'laws.FnPostTo', WHERE WHAT IT READS IS OF BULK AT MOST 1048576: true; the input reads as it did. -/
def fnPostToUptoRow : OpenClaim := { program := "ytphoghhlkoglpaa", sum := "02f1156e4ab95158966216b9ef6b457bb900a04206433570623ca1cacde442ce", func := "loop.example/comptoir/laws.FnPostTo", spec := "fnPostTo", unfollowed := true, recurses := true, apart := false, narrowed := true }
def FnPostToUptoSaid : Prop := fnPostToUptoRow.holds Try.pinned (OpenSpec.upto fnPostToSpec)

/-- 'laws.FnPostTurn', WHERE WHAT IT READS IS OF BULK AT MOST 1048576: true; the input reads as it did. -/
def fnPostTurnUptoRow : OpenClaim := { program := "ytphoghhlkoglpaa", sum := "02f1156e4ab95158966216b9ef6b457bb900a04206433570623ca1cacde442ce", func := "loop.example/comptoir/laws.FnPostTurn", spec := "fnPostTurn", unfollowed := true, recurses := true, apart := false, narrowed := true }
def FnPostTurnUptoSaid : Prop := fnPostTurnUptoRow.holds Try.pinned (OpenSpec.upto fnPostTurnSpec)

/-- 'laws.FnPostBent', WHERE WHAT IT READS IS OF BULK AT MOST 1048576: true; the input reads as it did. -/
def fnPostBentUptoRow : OpenClaim := { program := "ytphoghhlkoglpaa", sum := "02f1156e4ab95158966216b9ef6b457bb900a04206433570623ca1cacde442ce", func := "loop.example/comptoir/laws.FnPostBent", spec := "fnPostBent", apart := false, narrowed := true }
def FnPostBentUptoSaid : Prop := fnPostBentUptoRow.holds Try.pinned (OpenSpec.upto fnPostBentSpec)

/-- 'laws.FnPostJoin', WHERE WHAT IT READS IS OF BULK AT MOST 1048576: true; the input reads as it did. -/
def fnPostJoinUptoRow : OpenClaim := { program := "ytphoghhlkoglpaa", sum := "02f1156e4ab95158966216b9ef6b457bb900a04206433570623ca1cacde442ce", func := "loop.example/comptoir/laws.FnPostJoin", spec := "fnPostJoin", unfollowed := true, recurses := true, apart := false, narrowed := true }
def FnPostJoinUptoSaid : Prop := fnPostJoinUptoRow.holds Try.pinned (OpenSpec.upto fnPostJoinSpec)

/-- 'laws.FnExactAcctOk', WHERE WHAT IT READS IS OF BULK AT MOST 1048576: true; the input reads as it did. -/
def fnExactAcctOkUptoRow : OpenClaim := { program := "ytphoghhlkoglpaa", sum := "02f1156e4ab95158966216b9ef6b457bb900a04206433570623ca1cacde442ce", func := "loop.example/comptoir/laws.FnExactAcctOk", spec := "fnExactAcctOk", apart := false, narrowed := true }
def FnExactAcctOkUptoSaid : Prop := fnExactAcctOkUptoRow.holds Try.pinned (OpenSpec.upto fnExactAcctOkSpec)

/-- 'laws.FnExactLegOk', WHERE WHAT IT READS IS OF BULK AT MOST 1048576: true; the input reads as it did. -/
def fnExactLegOkUptoRow : OpenClaim := { program := "ytphoghhlkoglpaa", sum := "02f1156e4ab95158966216b9ef6b457bb900a04206433570623ca1cacde442ce", func := "loop.example/comptoir/laws.FnExactLegOk", spec := "fnExactLegOk", apart := false, narrowed := true }
def FnExactLegOkUptoSaid : Prop := fnExactLegOkUptoRow.holds Try.pinned (OpenSpec.upto fnExactLegOkSpec)

/-- 'laws.FnExactPostOk', WHERE WHAT IT READS IS OF BULK AT MOST 1048576: true; the input reads as it did. -/
def fnExactPostOkUptoRow : OpenClaim := { program := "ytphoghhlkoglpaa", sum := "02f1156e4ab95158966216b9ef6b457bb900a04206433570623ca1cacde442ce", func := "loop.example/comptoir/laws.FnExactPostOk", spec := "fnExactPostOk", apart := false, narrowed := true }
def FnExactPostOkUptoSaid : Prop := fnExactPostOkUptoRow.holds Try.pinned (OpenSpec.upto fnExactPostOkSpec)

/-- 'laws.FnExactPostSum', WHERE WHAT IT READS IS OF BULK AT MOST 1048576: true; the input reads as it did. -/
def fnExactPostSumUptoRow : OpenClaim := { program := "ytphoghhlkoglpaa", sum := "02f1156e4ab95158966216b9ef6b457bb900a04206433570623ca1cacde442ce", func := "loop.example/comptoir/laws.FnExactPostSum", spec := "fnExactPostSum", unfollowed := true, recurses := true, apart := false, narrowed := true }
def FnExactPostSumUptoSaid : Prop := fnExactPostSumUptoRow.holds Try.pinned (OpenSpec.upto fnExactPostSumSpec)

/-- 'laws.FnExactPostFair', WHERE WHAT IT READS IS OF BULK AT MOST 1048576: true; the input reads as it did. -/
def fnExactPostFairUptoRow : OpenClaim := { program := "ytphoghhlkoglpaa", sum := "02f1156e4ab95158966216b9ef6b457bb900a04206433570623ca1cacde442ce", func := "loop.example/comptoir/laws.FnExactPostFair", spec := "fnExactPostFair", unfollowed := true, recurses := true, apart := false, narrowed := true }
def FnExactPostFairUptoSaid : Prop := fnExactPostFairUptoRow.holds Try.pinned (OpenSpec.upto fnExactPostFairSpec)

/-- 'laws.FnExactPostTo', WHERE WHAT IT READS IS OF BULK AT MOST 1048576: true; the input reads as it did. -/
def fnExactPostToUptoRow : OpenClaim := { program := "ytphoghhlkoglpaa", sum := "02f1156e4ab95158966216b9ef6b457bb900a04206433570623ca1cacde442ce", func := "loop.example/comptoir/laws.FnExactPostTo", spec := "fnExactPostTo", unfollowed := true, recurses := true, apart := false, narrowed := true }
def FnExactPostToUptoSaid : Prop := fnExactPostToUptoRow.holds Try.pinned (OpenSpec.upto fnExactPostToSpec)

/-- 'laws.FnExactPostSame', WHERE WHAT IT READS IS OF BULK AT MOST 1048576: true; the input reads as it did. -/
def fnExactPostSameUptoRow : OpenClaim := { program := "ytphoghhlkoglpaa", sum := "02f1156e4ab95158966216b9ef6b457bb900a04206433570623ca1cacde442ce", func := "loop.example/comptoir/laws.FnExactPostSame", spec := "fnExactPostSame", apart := false, narrowed := true }
def FnExactPostSameUptoSaid : Prop := fnExactPostSameUptoRow.holds Try.pinned (OpenSpec.upto fnExactPostSameSpec)

end Rows
end Go.Proofs.Ytphoghhlkoglpaa
