/-
  DERIVED. GIVEN WITH THE SEED: THE CARDS: each row of YtpaknibaeieobabDoorRows.lean that lists a variable, with what it lists TIED to the program's text (the seventh form; the later family's looks); each row that meets fmt, with fmt's text TOLD by the authors' own Lean function (tested against real Go, not proved from fmt's source: count such statements apart). THE CARD IS WHAT COUNTS. Prove the row's statement (the work); the ties are given (YtpaknibaeieobabDoorTie.lean); close each card by the builder's one call (the guide's Derived/Test/ToyasCard.lean, 'card_holds'). Laid BY PROGRAM, IN A SANDBOX (cutbox-door.mjs). By AI agents, Wed Nov 11 2026. No macro, syntax, notation, axiom, sorry.
-/
import Derived.Test.YtpaknibaeieobabDoorRows
import GoSem.ClaimSeven
namespace Go.Proofs.YtpaknibaeieobabDoor
namespace Rows

/-- THE TIED CARD OF 'laws.FnExactKeyBal'. -/
def fnExactKeyBalCard : Claim7 := { stood := { row := fnExactKeyBalRow, standIns := [], harness := (true, "e6f3a405a8f46b8027506d19af0da80607945d96303ca9f7a7396aef4867e94f"), looks := false }, kinds := [], alts := [], laidByText := true, laidKinds := [.data, .data, .data], laidTests := true, laidLooks := .later }
def FnExactKeyBalCardSaid : Prop := Claim7.holds Tryd.pinned (.plain (OpenSpec.ofChange fnExactKeyBalSpec)) fnExactKeyBalCard

/-- THE SECOND FORM's CARD OF 'laws.FnExactKeyBal'. -/
def fnExactKeyBalUptoCard : Claim7 := { stood := { row := fnExactKeyBalUptoRow, standIns := [], harness := (true, "e6f3a405a8f46b8027506d19af0da80607945d96303ca9f7a7396aef4867e94f"), looks := false }, kinds := [], alts := [], laidByText := true, laidKinds := [.data, .data, .data], laidTests := true, laidLooks := .later }
def FnExactKeyBalUptoCardSaid : Prop := Claim7.holds Tryd.pinned (.plain (OpenSpec.upto fnExactKeyBalSpec)) fnExactKeyBalUptoCard
end Rows
end Go.Proofs.YtpaknibaeieobabDoor
