/-
  No cell of these rows narrows 'for every input' (looked for: loops, veiled, ifaces, maps, wideKeys, modest, calm, conditions, laid).
  DERIVED. THE GIVEN ROWS OF THIS SEAT. 10 by the template 'for every input the law returns true; each argument reads behind the call as it read before'; 0 by the template 'total and deterministic' (their statements: YtnopbjhlnjbodaaTotals.lean).
  GIVEN WITH THE SEED: the statements are not yours to turn. If you find one false, say at which input.
  Laid BY PROGRAM, IN A SANDBOX (cutbox-rows.mjs): the forced cells as the released guide's own fill.sh prints them over the translation c32e51add1a1ff37… (all of the seat's roots in one cut). By AI agents, Wed Nov 11 2026. No macro, syntax, notation, axiom, sorry.
-/
import Derived.Test.YtnopbjhlnjbodaaChecked
import GoSem.Claim
import GoSem.ClaimJoined
import GoSem.ClaimMapViews
import Derived.JoinedTies
import Derived.KernelRfl
namespace Go.Proofs.Ytnopbjhlnjbodaa
/- THE CELL 'sum', in the pinned program and in every row, IS THE sha256 OF THE DUMP (.gsa) THAT YtnopbjhlnjbodaaProg.lean LOADS. Nothing in Lean hashes anything: it is a label: what it is worth is what the hold of that sum in a sandbox is worth. -/
noncomputable def Try.pinned : Pinned := { name := "ytnopbjhlnjbodaa", sum := "c32e51add1a1ff371c1aa1ee20a7aba45dba296c3b9ed4de3880e3f7ace6954b", checked := Try.checked }
namespace Rows
def none {H : Type} : Left H := { results := [], args := [] }

/-- 'laws.FnRunBent': WHATEVER THE INPUT: true; the input reads as it did. -/
def fnRunBentSpec : ChangeSpec := { name := "fnRunBent", fn := fun _ => fun
  | [d] => { results := [.lit (.bool true)], args := [d] }
  | _ => none }
def fnRunBentRow : OpenClaim := { program := "ytnopbjhlnjbodaa", sum := "c32e51add1a1ff371c1aa1ee20a7aba45dba296c3b9ed4de3880e3f7ace6954b", func := "loop.example/comptoir/laws.FnRunBent", spec := "fnRunBent", inPlace := ["internal/bytealg.abigen_runtime_cmpstring"], unfollowed := true, recurses := true, plainKeys := false, apart := false }
def FnRunBentSaid : Prop := fnRunBentRow.holds Try.pinned (OpenSpec.ofChange fnRunBentSpec)

/-- ITS FALSE NEIGHBOUR: 'it returns false'. Refute it at one input. -/
def fnRunBentWrong : ChangeSpec := { name := "fnRunBent", fn := fun _ => fun
  | [d] => { results := [.lit (.bool false)], args := [d] }
  | _ => none }
def FnRunBentWrongFalsely : Prop := fnRunBentRow.holds Try.pinned (OpenSpec.ofChange fnRunBentWrong)

/-- 'laws.FnExactTreeNew': WHATEVER THE INPUT: true; the input reads as it did. -/
def fnExactTreeNewSpec : ChangeSpec := { name := "fnExactTreeNew", fn := fun _ => fun
  | [] => { results := [.lit (.bool true)], args := [] }
  | _ => none }
def fnExactTreeNewRow : OpenClaim := { program := "ytnopbjhlnjbodaa", sum := "c32e51add1a1ff371c1aa1ee20a7aba45dba296c3b9ed4de3880e3f7ace6954b", func := "loop.example/comptoir/laws.FnExactTreeNew", spec := "fnExactTreeNew", plainKeys := false, apart := false }
def FnExactTreeNewSaid : Prop := fnExactTreeNewRow.holds Try.pinned (OpenSpec.ofChange fnExactTreeNewSpec)

/-- ITS FALSE NEIGHBOUR: 'it returns false'. Refute it at one input. -/
def fnExactTreeNewWrong : ChangeSpec := { name := "fnExactTreeNew", fn := fun _ => fun
  | [] => { results := [.lit (.bool false)], args := [] }
  | _ => none }
def FnExactTreeNewWrongFalsely : Prop := fnExactTreeNewRow.holds Try.pinned (OpenSpec.ofChange fnExactTreeNewWrong)

/-- 'laws.FnExactTreeSame': WHATEVER THE INPUT: true; the input reads as it did. -/
def fnExactTreeSameSpec : ChangeSpec := { name := "fnExactTreeSame", fn := fun _ => fun
  | [d1, d2] => { results := [.lit (.bool true)], args := [d1, d2] }
  | _ => none }
def fnExactTreeSameRow : OpenClaim := { program := "ytnopbjhlnjbodaa", sum := "c32e51add1a1ff371c1aa1ee20a7aba45dba296c3b9ed4de3880e3f7ace6954b", func := "loop.example/comptoir/laws.FnExactTreeSame", spec := "fnExactTreeSame", unfollowed := true, recurses := true, plainKeys := false, apart := false }
def FnExactTreeSameSaid : Prop := fnExactTreeSameRow.holds Try.pinned (OpenSpec.ofChange fnExactTreeSameSpec)

/-- ITS FALSE NEIGHBOUR: 'it returns false'. Refute it at one input. -/
def fnExactTreeSameWrong : ChangeSpec := { name := "fnExactTreeSame", fn := fun _ => fun
  | [d1, d2] => { results := [.lit (.bool false)], args := [d1, d2] }
  | _ => none }
def FnExactTreeSameWrongFalsely : Prop := fnExactTreeSameRow.holds Try.pinned (OpenSpec.ofChange fnExactTreeSameWrong)

/-- 'laws.FnExactTreeOk': WHATEVER THE INPUT: true; the input reads as it did. -/
def fnExactTreeOkSpec : ChangeSpec := { name := "fnExactTreeOk", fn := fun _ => fun
  | [d] => { results := [.lit (.bool true)], args := [d] }
  | _ => none }
def fnExactTreeOkRow : OpenClaim := { program := "ytnopbjhlnjbodaa", sum := "c32e51add1a1ff371c1aa1ee20a7aba45dba296c3b9ed4de3880e3f7ace6954b", func := "loop.example/comptoir/laws.FnExactTreeOk", spec := "fnExactTreeOk", inPlace := ["internal/bytealg.abigen_runtime_cmpstring"], unfollowed := true, recurses := true, plainKeys := false, apart := false }
def FnExactTreeOkSaid : Prop := fnExactTreeOkRow.holds Try.pinned (OpenSpec.ofChange fnExactTreeOkSpec)

/-- ITS FALSE NEIGHBOUR: 'it returns false'. Refute it at one input. -/
def fnExactTreeOkWrong : ChangeSpec := { name := "fnExactTreeOk", fn := fun _ => fun
  | [d] => { results := [.lit (.bool false)], args := [d] }
  | _ => none }
def FnExactTreeOkWrongFalsely : Prop := fnExactTreeOkRow.holds Try.pinned (OpenSpec.ofChange fnExactTreeOkWrong)

/-- 'laws.FnRunOf': WHATEVER THE INPUT: true; the input reads as it did. -/
def fnRunOfSpec : ChangeSpec := { name := "fnRunOf", fn := fun _ => fun
  | [d] => { results := [.lit (.bool true)], args := [d] }
  | _ => none }
def fnRunOfRow : OpenClaim := { program := "ytnopbjhlnjbodaa", sum := "c32e51add1a1ff371c1aa1ee20a7aba45dba296c3b9ed4de3880e3f7ace6954b", func := "loop.example/comptoir/laws.FnRunOf", spec := "fnRunOf", inPlace := ["internal/bytealg.abigen_runtime_cmpstring"], unfollowed := true, recurses := true, plainKeys := false, apart := false }
def FnRunOfSaid : Prop := fnRunOfRow.holds Try.pinned (OpenSpec.ofChange fnRunOfSpec)

/-- ITS FALSE NEIGHBOUR: 'it returns false'. Refute it at one input. -/
def fnRunOfWrong : ChangeSpec := { name := "fnRunOf", fn := fun _ => fun
  | [d] => { results := [.lit (.bool false)], args := [d] }
  | _ => none }
def FnRunOfWrongFalsely : Prop := fnRunOfRow.holds Try.pinned (OpenSpec.ofChange fnRunOfWrong)

/-- 'laws.FnRunMore': WHATEVER THE INPUT: true; the input reads as it did. -/
def fnRunMoreSpec : ChangeSpec := { name := "fnRunMore", fn := fun _ => fun
  | [d] => { results := [.lit (.bool true)], args := [d] }
  | _ => none }
def fnRunMoreRow : OpenClaim := { program := "ytnopbjhlnjbodaa", sum := "c32e51add1a1ff371c1aa1ee20a7aba45dba296c3b9ed4de3880e3f7ace6954b", func := "loop.example/comptoir/laws.FnRunMore", spec := "fnRunMore", inPlace := ["internal/bytealg.abigen_runtime_cmpstring"], unfollowed := true, recurses := true, plainKeys := false, apart := false }
def FnRunMoreSaid : Prop := fnRunMoreRow.holds Try.pinned (OpenSpec.ofChange fnRunMoreSpec)

/-- ITS FALSE NEIGHBOUR: 'it returns false'. Refute it at one input. -/
def fnRunMoreWrong : ChangeSpec := { name := "fnRunMore", fn := fun _ => fun
  | [d] => { results := [.lit (.bool false)], args := [d] }
  | _ => none }
def FnRunMoreWrongFalsely : Prop := fnRunMoreRow.holds Try.pinned (OpenSpec.ofChange fnRunMoreWrong)

/-- 'laws.FnRunCut': WHATEVER THE INPUT: true; the input reads as it did. -/
def fnRunCutSpec : ChangeSpec := { name := "fnRunCut", fn := fun _ => fun
  | [d1, d2] => { results := [.lit (.bool true)], args := [d1, d2] }
  | _ => none }
def fnRunCutRow : OpenClaim := { program := "ytnopbjhlnjbodaa", sum := "c32e51add1a1ff371c1aa1ee20a7aba45dba296c3b9ed4de3880e3f7ace6954b", func := "loop.example/comptoir/laws.FnRunCut", spec := "fnRunCut", inPlace := ["internal/bytealg.abigen_runtime_cmpstring"], unfollowed := true, recurses := true, plainKeys := false, apart := false }
def FnRunCutSaid : Prop := fnRunCutRow.holds Try.pinned (OpenSpec.ofChange fnRunCutSpec)

/-- ITS FALSE NEIGHBOUR: 'it returns false'. Refute it at one input. -/
def fnRunCutWrong : ChangeSpec := { name := "fnRunCut", fn := fun _ => fun
  | [d1, d2] => { results := [.lit (.bool false)], args := [d1, d2] }
  | _ => none }
def FnRunCutWrongFalsely : Prop := fnRunCutRow.holds Try.pinned (OpenSpec.ofChange fnRunCutWrong)

/-- 'laws.FnExactSquash': WHATEVER THE INPUT: true; the input reads as it did. -/
def fnExactSquashSpec : ChangeSpec := { name := "fnExactSquash", fn := fun _ => fun
  | [d1, d2, d3] => { results := [.lit (.bool true)], args := [d1, d2, d3] }
  | _ => none }
def fnExactSquashRow : OpenClaim := { program := "ytnopbjhlnjbodaa", sum := "c32e51add1a1ff371c1aa1ee20a7aba45dba296c3b9ed4de3880e3f7ace6954b", func := "loop.example/comptoir/laws.FnExactSquash", spec := "fnExactSquash", inPlace := ["internal/bytealg.abigen_runtime_cmpstring"], unfollowed := true, recurses := true, plainKeys := false, apart := false }
def FnExactSquashSaid : Prop := fnExactSquashRow.holds Try.pinned (OpenSpec.ofChange fnExactSquashSpec)

/-- ITS FALSE NEIGHBOUR: 'it returns false'. Refute it at one input. -/
def fnExactSquashWrong : ChangeSpec := { name := "fnExactSquash", fn := fun _ => fun
  | [d1, d2, d3] => { results := [.lit (.bool false)], args := [d1, d2, d3] }
  | _ => none }
def FnExactSquashWrongFalsely : Prop := fnExactSquashRow.holds Try.pinned (OpenSpec.ofChange fnExactSquashWrong)

/-- 'laws.FnRunFind': WHATEVER THE INPUT: true; the input reads as it did. -/
def fnRunFindSpec : ChangeSpec := { name := "fnRunFind", fn := fun _ => fun
  | [d] => { results := [.lit (.bool true)], args := [d] }
  | _ => none }
def fnRunFindRow : OpenClaim := { program := "ytnopbjhlnjbodaa", sum := "c32e51add1a1ff371c1aa1ee20a7aba45dba296c3b9ed4de3880e3f7ace6954b", func := "loop.example/comptoir/laws.FnRunFind", spec := "fnRunFind", inPlace := ["internal/bytealg.abigen_runtime_cmpstring"], unfollowed := true, recurses := true, plainKeys := false, apart := false }
def FnRunFindSaid : Prop := fnRunFindRow.holds Try.pinned (OpenSpec.ofChange fnRunFindSpec)

/-- ITS FALSE NEIGHBOUR: 'it returns false'. Refute it at one input. -/
def fnRunFindWrong : ChangeSpec := { name := "fnRunFind", fn := fun _ => fun
  | [d] => { results := [.lit (.bool false)], args := [d] }
  | _ => none }
def FnRunFindWrongFalsely : Prop := fnRunFindRow.holds Try.pinned (OpenSpec.ofChange fnRunFindWrong)

/-- 'laws.FnExactBookAccts': WHATEVER THE INPUT: true; the input reads as it did. -/
def fnExactBookAcctsSpec : ChangeSpec := { name := "fnExactBookAccts", fn := fun _ => fun
  | [d] => { results := [.lit (.bool true)], args := [d] }
  | _ => none }
def fnExactBookAcctsRow : OpenClaim := { program := "ytnopbjhlnjbodaa", sum := "c32e51add1a1ff371c1aa1ee20a7aba45dba296c3b9ed4de3880e3f7ace6954b", func := "loop.example/comptoir/laws.FnExactBookAccts", spec := "fnExactBookAccts", inPlace := ["slices.overlaps[string]"], unfollowed := true, recurses := true, plainKeys := false, apart := false }
def FnExactBookAcctsSaid : Prop := fnExactBookAcctsRow.holds Try.pinned (OpenSpec.ofChange fnExactBookAcctsSpec)

/-- ITS FALSE NEIGHBOUR: 'it returns false'. Refute it at one input. -/
def fnExactBookAcctsWrong : ChangeSpec := { name := "fnExactBookAccts", fn := fun _ => fun
  | [d] => { results := [.lit (.bool false)], args := [d] }
  | _ => none }
def FnExactBookAcctsWrongFalsely : Prop := fnExactBookAcctsRow.holds Try.pinned (OpenSpec.ofChange fnExactBookAcctsWrong)

/- THE SECOND FORM. 'bulk': how many values and letters a reading holds, each counted each time it is reached (what is shared counts as often as it is met; a slice's spare places count too). A statement '..UptoSaid' is the law's where the arguments, and the package variables that the reading takes, are together of bulk at most 1048576: NARROWER than '..Said'. Prove '..Said' where nothing that the law and all that it calls make is longer than what came in: it says more and counts as full. Else prove '..UptoSaid'. A law counts once. -/
mutual
def uptoBulk {H : Type} : DataW H → Nat
  | .lit (.string bytes) => bytes.length + 1
  | .lit _ => 1
  | .nil => 1
  | .ptr d => uptoBulk d + 1
  | .slice elems spare => uptoBulkAll elems + uptoBulkAll spare + 1
  | .agg parts => uptoBulkAll parts + 1
  | .iface _ d => uptoBulk d + 1
  | .map entries => uptoBulkEntries entries + 1
  | .held _ => 1
def uptoBulkAll {H : Type} : List (DataW H) → Nat
  | [] => 0
  | d :: r => uptoBulk d + uptoBulkAll r
def uptoBulkEntries {H : Type} : List (Lit × DataW H) → Nat
  | [] => 0
  | x :: r => uptoBulkEntry x + uptoBulkEntries r
def uptoBulkEntry {H : Type} : Lit × DataW H → Nat
  | (.string bytes, d) => bytes.length + uptoBulk d + 1
  | (_, d) => uptoBulk d + 1
 end
def uptoSmall : (H : Type) → List (DataW H) → Bool := fun _ ds => decide (uptoBulkAll ds ≤ 1048576)
def OpenSpec.upto (s : _root_.Go.ChangeSpec) : _root_.Go.OpenSpec := { _root_.Go.OpenSpec.ofChange s with cond := some uptoSmall }

/-- 'laws.FnRunBent', WHERE WHAT IT READS IS OF BULK AT MOST 1048576: true; the input reads as it did. -/
def fnRunBentUptoRow : OpenClaim := { program := "ytnopbjhlnjbodaa", sum := "c32e51add1a1ff371c1aa1ee20a7aba45dba296c3b9ed4de3880e3f7ace6954b", func := "loop.example/comptoir/laws.FnRunBent", spec := "fnRunBent", inPlace := ["internal/bytealg.abigen_runtime_cmpstring"], unfollowed := true, recurses := true, plainKeys := false, apart := false, narrowed := true }
def FnRunBentUptoSaid : Prop := fnRunBentUptoRow.holds Try.pinned (OpenSpec.upto fnRunBentSpec)

/-- 'laws.FnExactTreeNew', WHERE WHAT IT READS IS OF BULK AT MOST 1048576: true; the input reads as it did. -/
def fnExactTreeNewUptoRow : OpenClaim := { program := "ytnopbjhlnjbodaa", sum := "c32e51add1a1ff371c1aa1ee20a7aba45dba296c3b9ed4de3880e3f7ace6954b", func := "loop.example/comptoir/laws.FnExactTreeNew", spec := "fnExactTreeNew", plainKeys := false, apart := false, narrowed := true }
def FnExactTreeNewUptoSaid : Prop := fnExactTreeNewUptoRow.holds Try.pinned (OpenSpec.upto fnExactTreeNewSpec)

/-- 'laws.FnExactTreeSame', WHERE WHAT IT READS IS OF BULK AT MOST 1048576: true; the input reads as it did. -/
def fnExactTreeSameUptoRow : OpenClaim := { program := "ytnopbjhlnjbodaa", sum := "c32e51add1a1ff371c1aa1ee20a7aba45dba296c3b9ed4de3880e3f7ace6954b", func := "loop.example/comptoir/laws.FnExactTreeSame", spec := "fnExactTreeSame", unfollowed := true, recurses := true, plainKeys := false, apart := false, narrowed := true }
def FnExactTreeSameUptoSaid : Prop := fnExactTreeSameUptoRow.holds Try.pinned (OpenSpec.upto fnExactTreeSameSpec)

/-- 'laws.FnExactTreeOk', WHERE WHAT IT READS IS OF BULK AT MOST 1048576: true; the input reads as it did. -/
def fnExactTreeOkUptoRow : OpenClaim := { program := "ytnopbjhlnjbodaa", sum := "c32e51add1a1ff371c1aa1ee20a7aba45dba296c3b9ed4de3880e3f7ace6954b", func := "loop.example/comptoir/laws.FnExactTreeOk", spec := "fnExactTreeOk", inPlace := ["internal/bytealg.abigen_runtime_cmpstring"], unfollowed := true, recurses := true, plainKeys := false, apart := false, narrowed := true }
def FnExactTreeOkUptoSaid : Prop := fnExactTreeOkUptoRow.holds Try.pinned (OpenSpec.upto fnExactTreeOkSpec)

/-- 'laws.FnRunOf', WHERE WHAT IT READS IS OF BULK AT MOST 1048576: true; the input reads as it did. -/
def fnRunOfUptoRow : OpenClaim := { program := "ytnopbjhlnjbodaa", sum := "c32e51add1a1ff371c1aa1ee20a7aba45dba296c3b9ed4de3880e3f7ace6954b", func := "loop.example/comptoir/laws.FnRunOf", spec := "fnRunOf", inPlace := ["internal/bytealg.abigen_runtime_cmpstring"], unfollowed := true, recurses := true, plainKeys := false, apart := false, narrowed := true }
def FnRunOfUptoSaid : Prop := fnRunOfUptoRow.holds Try.pinned (OpenSpec.upto fnRunOfSpec)

/-- 'laws.FnRunMore', WHERE WHAT IT READS IS OF BULK AT MOST 1048576: true; the input reads as it did. -/
def fnRunMoreUptoRow : OpenClaim := { program := "ytnopbjhlnjbodaa", sum := "c32e51add1a1ff371c1aa1ee20a7aba45dba296c3b9ed4de3880e3f7ace6954b", func := "loop.example/comptoir/laws.FnRunMore", spec := "fnRunMore", inPlace := ["internal/bytealg.abigen_runtime_cmpstring"], unfollowed := true, recurses := true, plainKeys := false, apart := false, narrowed := true }
def FnRunMoreUptoSaid : Prop := fnRunMoreUptoRow.holds Try.pinned (OpenSpec.upto fnRunMoreSpec)

/-- 'laws.FnRunCut', WHERE WHAT IT READS IS OF BULK AT MOST 1048576: true; the input reads as it did. -/
def fnRunCutUptoRow : OpenClaim := { program := "ytnopbjhlnjbodaa", sum := "c32e51add1a1ff371c1aa1ee20a7aba45dba296c3b9ed4de3880e3f7ace6954b", func := "loop.example/comptoir/laws.FnRunCut", spec := "fnRunCut", inPlace := ["internal/bytealg.abigen_runtime_cmpstring"], unfollowed := true, recurses := true, plainKeys := false, apart := false, narrowed := true }
def FnRunCutUptoSaid : Prop := fnRunCutUptoRow.holds Try.pinned (OpenSpec.upto fnRunCutSpec)

/-- 'laws.FnExactSquash', WHERE WHAT IT READS IS OF BULK AT MOST 1048576: true; the input reads as it did. -/
def fnExactSquashUptoRow : OpenClaim := { program := "ytnopbjhlnjbodaa", sum := "c32e51add1a1ff371c1aa1ee20a7aba45dba296c3b9ed4de3880e3f7ace6954b", func := "loop.example/comptoir/laws.FnExactSquash", spec := "fnExactSquash", inPlace := ["internal/bytealg.abigen_runtime_cmpstring"], unfollowed := true, recurses := true, plainKeys := false, apart := false, narrowed := true }
def FnExactSquashUptoSaid : Prop := fnExactSquashUptoRow.holds Try.pinned (OpenSpec.upto fnExactSquashSpec)

/-- 'laws.FnRunFind', WHERE WHAT IT READS IS OF BULK AT MOST 1048576: true; the input reads as it did. -/
def fnRunFindUptoRow : OpenClaim := { program := "ytnopbjhlnjbodaa", sum := "c32e51add1a1ff371c1aa1ee20a7aba45dba296c3b9ed4de3880e3f7ace6954b", func := "loop.example/comptoir/laws.FnRunFind", spec := "fnRunFind", inPlace := ["internal/bytealg.abigen_runtime_cmpstring"], unfollowed := true, recurses := true, plainKeys := false, apart := false, narrowed := true }
def FnRunFindUptoSaid : Prop := fnRunFindUptoRow.holds Try.pinned (OpenSpec.upto fnRunFindSpec)

/-- 'laws.FnExactBookAccts', WHERE WHAT IT READS IS OF BULK AT MOST 1048576: true; the input reads as it did. -/
def fnExactBookAcctsUptoRow : OpenClaim := { program := "ytnopbjhlnjbodaa", sum := "c32e51add1a1ff371c1aa1ee20a7aba45dba296c3b9ed4de3880e3f7ace6954b", func := "loop.example/comptoir/laws.FnExactBookAccts", spec := "fnExactBookAccts", inPlace := ["slices.overlaps[string]"], unfollowed := true, recurses := true, plainKeys := false, apart := false, narrowed := true }
def FnExactBookAcctsUptoSaid : Prop := fnExactBookAcctsUptoRow.holds Try.pinned (OpenSpec.upto fnExactBookAcctsSpec)

end Rows
end Go.Proofs.Ytnopbjhlnjbodaa
