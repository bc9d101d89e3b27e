/-
  DERIVED. GIVEN WITH THE SEED: THE CARDS: each row of YtapjkbpfhmbfaaaGreatDoorRows.lean that lists a variable, with what it lists TIED to the program's text (the seventh form; the later family's looks); each row that meets fmt, with fmt's text TOLD by the authors' own Lean function (tested against real Go, not proved from fmt's source: count such statements apart). THE CARD IS WHAT COUNTS. Prove the row's statement (the work); the ties are given (YtapjkbpfhmbfaaaGreatDoorTie.lean); close each card by the builder's one call (the guide's Derived/Test/ToyasCard.lean, 'card_holds'). Laid BY PROGRAM, IN A SANDBOX (cutbox-door.mjs). By AI agents, Wed Nov 11 2026. No macro, syntax, notation, axiom, sorry.
-/
import Derived.Test.YtapjkbpfhmbfaaaGreatDoorRows
import GoSem.ClaimSeven
namespace Go.Proofs.YtapjkbpfhmbfaaaGreatDoor
namespace Rows

/-- THE TIED CARD OF 'laws.FnExactStoreOk'. -/
def fnExactStoreOkCard : Claim7 := { stood := { row := fnExactStoreOkRow, standIns := [], harness := (true, "c5779c9de2cc91cf71c16d874295cf30c5b5b4e8caf460b82c28f5441b3f8ef9"), looks := true }, kinds := [], alts := [], laidByText := true, laidKinds := [.data, .data, .data, .sentinel, .sentinel], laidTests := true, laidLooks := .later }
def FnExactStoreOkCardSaid : Prop := Claim7.holds Tryz.pinned (.plain (OpenSpec.ofChange fnExactStoreOkSpec)) fnExactStoreOkCard

/-- THE TIED CARD OF 'laws.FnExactStoreSync'. -/
def fnExactStoreSyncCard : Claim7 := { stood := { row := fnExactStoreSyncRow, standIns := [], harness := (true, "c5779c9de2cc91cf71c16d874295cf30c5b5b4e8caf460b82c28f5441b3f8ef9"), looks := true }, kinds := [], alts := [], laidByText := true, laidKinds := [.data, .data, .data, .sentinel, .sentinel], laidTests := true, laidLooks := .later }
def FnExactStoreSyncCardSaid : Prop := Claim7.holds Tryz.pinned (.plain (OpenSpec.ofChange fnExactStoreSyncSpec)) fnExactStoreSyncCard

/-- THE TIED CARD OF 'laws.FnExactStoreFall'. -/
def fnExactStoreFallCard : Claim7 := { stood := { row := fnExactStoreFallRow, standIns := [], harness := (true, "c5779c9de2cc91cf71c16d874295cf30c5b5b4e8caf460b82c28f5441b3f8ef9"), looks := true }, kinds := [], alts := [], laidByText := true, laidKinds := [.data, .data, .data, .sentinel, .sentinel], laidTests := true, laidLooks := .later }
def FnExactStoreFallCardSaid : Prop := Claim7.holds Tryz.pinned (.plain (OpenSpec.ofChange fnExactStoreFallSpec)) fnExactStoreFallCard

/-- THE TIED CARD OF 'laws.FnExactStoreOpen'. -/
def fnExactStoreOpenCard : Claim7 := { stood := { row := fnExactStoreOpenRow, standIns := [], harness := (true, "c5779c9de2cc91cf71c16d874295cf30c5b5b4e8caf460b82c28f5441b3f8ef9"), looks := true }, kinds := [], alts := [], laidByText := true, laidKinds := [.data, .data, .data, .sentinel, .sentinel], laidTests := true, laidLooks := .later }
def FnExactStoreOpenCardSaid : Prop := Claim7.holds Tryz.pinned (.plain (OpenSpec.ofChange fnExactStoreOpenSpec)) fnExactStoreOpenCard

/-- THE TIED CARD OF 'laws.FnExactStoreBreak'. -/
def fnExactStoreBreakCard : Claim7 := { stood := { row := fnExactStoreBreakRow, standIns := [], harness := (true, "c5779c9de2cc91cf71c16d874295cf30c5b5b4e8caf460b82c28f5441b3f8ef9"), looks := true }, kinds := [], alts := [], laidByText := true, laidKinds := [.data, .data, .data, .sentinel, .sentinel], laidTests := true, laidLooks := .later }
def FnExactStoreBreakCardSaid : Prop := Claim7.holds Tryz.pinned (.plain (OpenSpec.ofChange fnExactStoreBreakSpec)) fnExactStoreBreakCard

/-- THE TIED CARD OF 'laws.FnExactStoreWrite'. -/
def fnExactStoreWriteCard : Claim7 := { stood := { row := fnExactStoreWriteRow, standIns := [], harness := (true, "c5779c9de2cc91cf71c16d874295cf30c5b5b4e8caf460b82c28f5441b3f8ef9"), looks := true }, kinds := [], alts := [], laidByText := true, laidKinds := [.data, .data, .data, .sentinel, .sentinel], laidTests := true, laidLooks := .later }
def FnExactStoreWriteCardSaid : Prop := Claim7.holds Tryz.pinned (.plain (OpenSpec.ofChange fnExactStoreWriteSpec)) fnExactStoreWriteCard

/-- THE TIED CARD OF 'laws.FnExactStoreFlush'. -/
def fnExactStoreFlushCard : Claim7 := { stood := { row := fnExactStoreFlushRow, standIns := [], harness := (true, "c5779c9de2cc91cf71c16d874295cf30c5b5b4e8caf460b82c28f5441b3f8ef9"), looks := true }, kinds := [], alts := [], laidByText := true, laidKinds := [.data, .data, .data, .sentinel, .sentinel], laidTests := true, laidLooks := .later }
def FnExactStoreFlushCardSaid : Prop := Claim7.holds Tryz.pinned (.plain (OpenSpec.ofChange fnExactStoreFlushSpec)) fnExactStoreFlushCard

/-- THE TIED CARD OF 'laws.FnExactStoreCompact'. -/
def fnExactStoreCompactCard : Claim7 := { stood := { row := fnExactStoreCompactRow, standIns := [], harness := (true, "c5779c9de2cc91cf71c16d874295cf30c5b5b4e8caf460b82c28f5441b3f8ef9"), looks := true }, kinds := [], alts := [], laidByText := true, laidKinds := [.data, .data, .data, .sentinel, .sentinel], laidTests := true, laidLooks := .later }
def FnExactStoreCompactCardSaid : Prop := Claim7.holds Tryz.pinned (.plain (OpenSpec.ofChange fnExactStoreCompactSpec)) fnExactStoreCompactCard

/-- THE SECOND FORM's CARD OF 'laws.FnExactStoreOk'. -/
def fnExactStoreOkUptoCard : Claim7 := { stood := { row := fnExactStoreOkUptoRow, standIns := [], harness := (true, "c5779c9de2cc91cf71c16d874295cf30c5b5b4e8caf460b82c28f5441b3f8ef9"), looks := true }, kinds := [], alts := [], laidByText := true, laidKinds := [.data, .data, .data, .sentinel, .sentinel], laidTests := true, laidLooks := .later }
def FnExactStoreOkUptoCardSaid : Prop := Claim7.holds Tryz.pinned (.plain (OpenSpec.upto fnExactStoreOkSpec)) fnExactStoreOkUptoCard

/-- THE SECOND FORM's CARD OF 'laws.FnExactStoreSync'. -/
def fnExactStoreSyncUptoCard : Claim7 := { stood := { row := fnExactStoreSyncUptoRow, standIns := [], harness := (true, "c5779c9de2cc91cf71c16d874295cf30c5b5b4e8caf460b82c28f5441b3f8ef9"), looks := true }, kinds := [], alts := [], laidByText := true, laidKinds := [.data, .data, .data, .sentinel, .sentinel], laidTests := true, laidLooks := .later }
def FnExactStoreSyncUptoCardSaid : Prop := Claim7.holds Tryz.pinned (.plain (OpenSpec.upto fnExactStoreSyncSpec)) fnExactStoreSyncUptoCard

/-- THE SECOND FORM's CARD OF 'laws.FnExactStoreFall'. -/
def fnExactStoreFallUptoCard : Claim7 := { stood := { row := fnExactStoreFallUptoRow, standIns := [], harness := (true, "c5779c9de2cc91cf71c16d874295cf30c5b5b4e8caf460b82c28f5441b3f8ef9"), looks := true }, kinds := [], alts := [], laidByText := true, laidKinds := [.data, .data, .data, .sentinel, .sentinel], laidTests := true, laidLooks := .later }
def FnExactStoreFallUptoCardSaid : Prop := Claim7.holds Tryz.pinned (.plain (OpenSpec.upto fnExactStoreFallSpec)) fnExactStoreFallUptoCard

/-- THE SECOND FORM's CARD OF 'laws.FnExactStoreOpen'. -/
def fnExactStoreOpenUptoCard : Claim7 := { stood := { row := fnExactStoreOpenUptoRow, standIns := [], harness := (true, "c5779c9de2cc91cf71c16d874295cf30c5b5b4e8caf460b82c28f5441b3f8ef9"), looks := true }, kinds := [], alts := [], laidByText := true, laidKinds := [.data, .data, .data, .sentinel, .sentinel], laidTests := true, laidLooks := .later }
def FnExactStoreOpenUptoCardSaid : Prop := Claim7.holds Tryz.pinned (.plain (OpenSpec.upto fnExactStoreOpenSpec)) fnExactStoreOpenUptoCard

/-- THE SECOND FORM's CARD OF 'laws.FnExactStoreBreak'. -/
def fnExactStoreBreakUptoCard : Claim7 := { stood := { row := fnExactStoreBreakUptoRow, standIns := [], harness := (true, "c5779c9de2cc91cf71c16d874295cf30c5b5b4e8caf460b82c28f5441b3f8ef9"), looks := true }, kinds := [], alts := [], laidByText := true, laidKinds := [.data, .data, .data, .sentinel, .sentinel], laidTests := true, laidLooks := .later }
def FnExactStoreBreakUptoCardSaid : Prop := Claim7.holds Tryz.pinned (.plain (OpenSpec.upto fnExactStoreBreakSpec)) fnExactStoreBreakUptoCard

/-- THE SECOND FORM's CARD OF 'laws.FnExactStoreWrite'. -/
def fnExactStoreWriteUptoCard : Claim7 := { stood := { row := fnExactStoreWriteUptoRow, standIns := [], harness := (true, "c5779c9de2cc91cf71c16d874295cf30c5b5b4e8caf460b82c28f5441b3f8ef9"), looks := true }, kinds := [], alts := [], laidByText := true, laidKinds := [.data, .data, .data, .sentinel, .sentinel], laidTests := true, laidLooks := .later }
def FnExactStoreWriteUptoCardSaid : Prop := Claim7.holds Tryz.pinned (.plain (OpenSpec.upto fnExactStoreWriteSpec)) fnExactStoreWriteUptoCard

/-- THE SECOND FORM's CARD OF 'laws.FnExactStoreFlush'. -/
def fnExactStoreFlushUptoCard : Claim7 := { stood := { row := fnExactStoreFlushUptoRow, standIns := [], harness := (true, "c5779c9de2cc91cf71c16d874295cf30c5b5b4e8caf460b82c28f5441b3f8ef9"), looks := true }, kinds := [], alts := [], laidByText := true, laidKinds := [.data, .data, .data, .sentinel, .sentinel], laidTests := true, laidLooks := .later }
def FnExactStoreFlushUptoCardSaid : Prop := Claim7.holds Tryz.pinned (.plain (OpenSpec.upto fnExactStoreFlushSpec)) fnExactStoreFlushUptoCard

/-- THE SECOND FORM's CARD OF 'laws.FnExactStoreCompact'. -/
def fnExactStoreCompactUptoCard : Claim7 := { stood := { row := fnExactStoreCompactUptoRow, standIns := [], harness := (true, "c5779c9de2cc91cf71c16d874295cf30c5b5b4e8caf460b82c28f5441b3f8ef9"), looks := true }, kinds := [], alts := [], laidByText := true, laidKinds := [.data, .data, .data, .sentinel, .sentinel], laidTests := true, laidLooks := .later }
def FnExactStoreCompactUptoCardSaid : Prop := Claim7.holds Tryz.pinned (.plain (OpenSpec.upto fnExactStoreCompactSpec)) fnExactStoreCompactUptoCard
end Rows
end Go.Proofs.YtapjkbpfhmbfaaaGreatDoor
