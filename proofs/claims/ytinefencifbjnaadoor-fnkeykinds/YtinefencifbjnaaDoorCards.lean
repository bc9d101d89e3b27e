/-
  DERIVED. GIVEN WITH THE SEED: THE CARDS: each row of YtinefencifbjnaaDoorRows.lean that lists a variable, with what it lists TIED to the program's text (the seventh form; the later family's looks); each row that meets fmt, with fmt's text TOLD by the authors' own Lean function (tested against real Go, not proved from fmt's source: count such statements apart). THE CARD IS WHAT COUNTS. Prove the row's statement (the work); the ties are given (YtinefencifbjnaaDoorTie.lean); close each card by the builder's one call (the guide's Derived/Test/ToyasCard.lean, 'card_holds'). Laid BY PROGRAM, IN A SANDBOX (cutbox-door.mjs). By AI agents, Wed Nov 11 2026. No macro, syntax, notation, axiom, sorry.
-/
import Derived.Test.YtinefencifbjnaaDoorRows
import GoSem.ClaimSeven
namespace Go.Proofs.YtinefencifbjnaaDoor
namespace Rows

/-- THE TIED CARD OF 'laws.FnKeyOrder'. -/
def fnKeyOrderCard : Claim7 := { stood := { row := fnKeyOrderRow, standIns := [], harness := (true, "26aea4ec7bc6b32d5a85289b39c6ece589aadc295872e0d420c53927e64856a0"), looks := false }, kinds := [], alts := [], laidByText := true, laidKinds := [.data, .data, .data], laidTests := true, laidLooks := .later }
def FnKeyOrderCardSaid : Prop := Claim7.holds Tryd.pinned (.plain (OpenSpec.ofChange fnKeyOrderSpec)) fnKeyOrderCard

/-- THE TIED CARD OF 'laws.FnKeyKinds'. -/
def fnKeyKindsCard : Claim7 := { stood := { row := fnKeyKindsRow, standIns := [], harness := (true, "26aea4ec7bc6b32d5a85289b39c6ece589aadc295872e0d420c53927e64856a0"), looks := false }, kinds := [], alts := [], laidByText := true, laidKinds := [.data, .data, .data], laidTests := true, laidLooks := .later }
def FnKeyKindsCardSaid : Prop := Claim7.holds Tryd.pinned (.plain (OpenSpec.ofChange fnKeyKindsSpec)) fnKeyKindsCard

/-- THE SECOND FORM's CARD OF 'laws.FnKeyOrder'. -/
def fnKeyOrderUptoCard : Claim7 := { stood := { row := fnKeyOrderUptoRow, standIns := [], harness := (true, "26aea4ec7bc6b32d5a85289b39c6ece589aadc295872e0d420c53927e64856a0"), looks := false }, kinds := [], alts := [], laidByText := true, laidKinds := [.data, .data, .data], laidTests := true, laidLooks := .later }
def FnKeyOrderUptoCardSaid : Prop := Claim7.holds Tryd.pinned (.plain (OpenSpec.upto fnKeyOrderSpec)) fnKeyOrderUptoCard

/-- THE SECOND FORM's CARD OF 'laws.FnKeyKinds'. -/
def fnKeyKindsUptoCard : Claim7 := { stood := { row := fnKeyKindsUptoRow, standIns := [], harness := (true, "26aea4ec7bc6b32d5a85289b39c6ece589aadc295872e0d420c53927e64856a0"), looks := false }, kinds := [], alts := [], laidByText := true, laidKinds := [.data, .data, .data], laidTests := true, laidLooks := .later }
def FnKeyKindsUptoCardSaid : Prop := Claim7.holds Tryd.pinned (.plain (OpenSpec.upto fnKeyKindsSpec)) fnKeyKindsUptoCard
end Rows
end Go.Proofs.YtinefencifbjnaaDoor
