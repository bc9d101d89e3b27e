/-
  DERIVED. GIVEN WITH THE SEED: THE CARDS: each row of YtoegpdinokjbmaaDoorRows.lean that lists a variable, with what it lists TIED to the program's text (the seventh form; the later family's looks); each row that meets fmt, with fmt's text TOLD by the authors' own Lean function (tested against real Go, not proved from fmt's source: count such statements apart). THE CARD IS WHAT COUNTS. Prove the row's statement (the work); the ties are given (YtoegpdinokjbmaaDoorTie.lean); close each card by the builder's one call (the guide's Derived/Test/ToyasCard.lean, 'card_holds'). Laid BY PROGRAM, IN A SANDBOX (cutbox-door.mjs). By AI agents, Wed Nov 11 2026. No macro, syntax, notation, axiom, sorry.
-/
import Derived.Test.YtoegpdinokjbmaaDoorRows
import GoSem.ClaimSeven
namespace Go.Proofs.YtoegpdinokjbmaaDoor
namespace Rows

/-- THE TIED CARD OF 'laws.FnExactBookOk'. -/
def fnExactBookOkCard : Claim7 := { stood := { row := fnExactBookOkRow, standIns := [], harness := (true, "45593cc40a8992e620f6f27faa932b106948366c002f2071d0ad7bfb7096cbf4"), looks := true }, kinds := [], alts := [], laidByText := true, laidKinds := [.handle], laidTests := true, laidLooks := .later }
def FnExactBookOkCardSaid : Prop := Claim7.holds Tryd.pinned (.plain (OpenSpec.ofChange fnExactBookOkSpec)) fnExactBookOkCard

/-- THE TIED CARD OF 'laws.FnExactBookLines'. -/
def fnExactBookLinesCard : Claim7 := { stood := { row := fnExactBookLinesRow, standIns := [], harness := (true, "45593cc40a8992e620f6f27faa932b106948366c002f2071d0ad7bfb7096cbf4"), looks := true }, kinds := [], alts := [], laidByText := true, laidKinds := [.handle], laidTests := true, laidLooks := .later }
def FnExactBookLinesCardSaid : Prop := Claim7.holds Tryd.pinned (.plain (OpenSpec.ofChange fnExactBookLinesSpec)) fnExactBookLinesCard

/-- THE TIED CARD OF 'laws.FnExactBookPost'. -/
def fnExactBookPostCard : Claim7 := { stood := { row := fnExactBookPostRow, standIns := [], harness := (true, "45593cc40a8992e620f6f27faa932b106948366c002f2071d0ad7bfb7096cbf4"), looks := true }, kinds := [], alts := [], laidByText := true, laidKinds := [.handle], laidTests := true, laidLooks := .later }
def FnExactBookPostCardSaid : Prop := Claim7.holds Tryd.pinned (.plain (OpenSpec.ofChange fnExactBookPostSpec)) fnExactBookPostCard

/-- THE TIED CARD OF 'laws.FnBookCode'. -/
def fnBookCodeCard : Claim7 := { stood := { row := fnBookCodeRow, standIns := [], harness := (true, "45593cc40a8992e620f6f27faa932b106948366c002f2071d0ad7bfb7096cbf4"), looks := true }, kinds := [], alts := [], laidByText := true, laidKinds := [.handle], laidTests := true, laidLooks := .later }
def FnBookCodeCardSaid : Prop := Claim7.holds Tryd.pinned (.plain (OpenSpec.ofChange fnBookCodeSpec)) fnBookCodeCard

/-- THE SECOND FORM's CARD OF 'laws.FnExactBookOk'. -/
def fnExactBookOkUptoCard : Claim7 := { stood := { row := fnExactBookOkUptoRow, standIns := [], harness := (true, "45593cc40a8992e620f6f27faa932b106948366c002f2071d0ad7bfb7096cbf4"), looks := true }, kinds := [], alts := [], laidByText := true, laidKinds := [.handle], laidTests := true, laidLooks := .later }
def FnExactBookOkUptoCardSaid : Prop := Claim7.holds Tryd.pinned (.plain (OpenSpec.upto fnExactBookOkSpec)) fnExactBookOkUptoCard

/-- THE SECOND FORM's CARD OF 'laws.FnExactBookLines'. -/
def fnExactBookLinesUptoCard : Claim7 := { stood := { row := fnExactBookLinesUptoRow, standIns := [], harness := (true, "45593cc40a8992e620f6f27faa932b106948366c002f2071d0ad7bfb7096cbf4"), looks := true }, kinds := [], alts := [], laidByText := true, laidKinds := [.handle], laidTests := true, laidLooks := .later }
def FnExactBookLinesUptoCardSaid : Prop := Claim7.holds Tryd.pinned (.plain (OpenSpec.upto fnExactBookLinesSpec)) fnExactBookLinesUptoCard

/-- THE SECOND FORM's CARD OF 'laws.FnExactBookPost'. -/
def fnExactBookPostUptoCard : Claim7 := { stood := { row := fnExactBookPostUptoRow, standIns := [], harness := (true, "45593cc40a8992e620f6f27faa932b106948366c002f2071d0ad7bfb7096cbf4"), looks := true }, kinds := [], alts := [], laidByText := true, laidKinds := [.handle], laidTests := true, laidLooks := .later }
def FnExactBookPostUptoCardSaid : Prop := Claim7.holds Tryd.pinned (.plain (OpenSpec.upto fnExactBookPostSpec)) fnExactBookPostUptoCard

/-- THE SECOND FORM's CARD OF 'laws.FnBookCode'. -/
def fnBookCodeUptoCard : Claim7 := { stood := { row := fnBookCodeUptoRow, standIns := [], harness := (true, "45593cc40a8992e620f6f27faa932b106948366c002f2071d0ad7bfb7096cbf4"), looks := true }, kinds := [], alts := [], laidByText := true, laidKinds := [.handle], laidTests := true, laidLooks := .later }
def FnBookCodeUptoCardSaid : Prop := Claim7.holds Tryd.pinned (.plain (OpenSpec.upto fnBookCodeSpec)) fnBookCodeUptoCard
end Rows
end Go.Proofs.YtoegpdinokjbmaaDoor
