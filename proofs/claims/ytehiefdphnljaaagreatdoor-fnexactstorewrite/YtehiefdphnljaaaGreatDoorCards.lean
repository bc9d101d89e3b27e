/-
  DERIVED. GIVEN WITH THE SEED: THE CARDS: each row of YtehiefdphnljaaaGreatDoorRows.lean that lists a variable, with what it lists TIED to the program's text (the seventh form; the later family's looks); each row that meets fmt, with fmt's text TOLD by the authors' own Lean function (tested against real Go, not proved from fmt's source: count such statements apart). THE CARD IS WHAT COUNTS. Prove the row's statement (the work); the ties are given (YtehiefdphnljaaaGreatDoorTie.lean); close each card by the builder's one call (the guide's Derived/Test/ToyasCard.lean, 'card_holds'). Laid BY PROGRAM, IN A SANDBOX (cutbox-door.mjs). By AI agents, Wed Nov 11 2026. No macro, syntax, notation, axiom, sorry.
-/
import Derived.Test.YtehiefdphnljaaaGreatDoorRows
import GoSem.ClaimSeven
namespace Go.Proofs.YtehiefdphnljaaaGreatDoor
namespace Rows

/-- THE TIED CARD OF 'laws.FnExactStoreWrite'. -/
def fnExactStoreWriteCard : Claim7 := { stood := { row := fnExactStoreWriteRow, standIns := [], harness := (true, "766177f0c661e7847c22cb06d4a133caa07f8a8528d4be615bd66d7b4c432ebc"), looks := true }, kinds := [], alts := [], laidByText := true, laidKinds := [.data, .data, .data, .sentinel, .sentinel], laidTests := true, laidLooks := .later }
def FnExactStoreWriteCardSaid : Prop := Claim7.holds Tryz.pinned (.plain (OpenSpec.ofChange fnExactStoreWriteSpec)) fnExactStoreWriteCard

/-- THE SECOND FORM's CARD OF 'laws.FnExactStoreWrite'. -/
def fnExactStoreWriteUptoCard : Claim7 := { stood := { row := fnExactStoreWriteUptoRow, standIns := [], harness := (true, "766177f0c661e7847c22cb06d4a133caa07f8a8528d4be615bd66d7b4c432ebc"), looks := true }, kinds := [], alts := [], laidByText := true, laidKinds := [.data, .data, .data, .sentinel, .sentinel], laidTests := true, laidLooks := .later }
def FnExactStoreWriteUptoCardSaid : Prop := Claim7.holds Tryz.pinned (.plain (OpenSpec.upto fnExactStoreWriteSpec)) fnExactStoreWriteUptoCard
end Rows
end Go.Proofs.YtehiefdphnljaaaGreatDoor
