/-
  DERIVED. GIVEN WITH THE SEED: THE CARDS: each row of YtfblpbihpmhgjaaDoorRows.lean that lists a variable, with what it lists TIED to the program's text (the seventh form; the later family's looks); each row that meets fmt, with fmt's text TOLD by the authors' own Lean function (tested against real Go, not proved from fmt's source: count such statements apart). THE CARD IS WHAT COUNTS. Prove the row's statement (the work); the ties are given (YtfblpbihpmhgjaaDoorTie.lean); close each card by the builder's one call (the guide's Derived/Test/ToyasCard.lean, 'card_holds'). Laid BY PROGRAM, IN A SANDBOX (cutbox-door.mjs). By AI agents, Wed Nov 11 2026. No macro, syntax, notation, axiom, sorry.
-/
import Derived.Test.YtfblpbihpmhgjaaDoorRows
import GoSem.ClaimSeven
namespace Go.Proofs.YtfblpbihpmhgjaaDoor
namespace Rows

/-- THE TIED CARD OF 'laws.FnExactPostText'. -/
def fnExactPostTextCard : Claim7 := { stood := { row := fnExactPostTextRow, standIns := [], harness := (true, "2700bbe8f3bceef02e24e632076da4eef2e1d4ee67937f6f54cbe4cbec44b638"), looks := true }, kinds := [], alts := [], laidByText := true, laidKinds := [.data, .data, .data], laidTests := true, laidLooks := .later }
def FnExactPostTextCardSaid : Prop := Claim7.holds Tryd.pinned (.plain (OpenSpec.ofChange fnExactPostTextSpec)) fnExactPostTextCard

/-- THE TIED CARD OF 'laws.FnExactPostRead'. -/
def fnExactPostReadCard : Claim7 := { stood := { row := fnExactPostReadRow, standIns := [], harness := (true, "2700bbe8f3bceef02e24e632076da4eef2e1d4ee67937f6f54cbe4cbec44b638"), looks := true }, kinds := [], alts := [], laidByText := true, laidKinds := [.data, .data, .data, .sentinel, .sentinel, .data], laidTests := true, laidLooks := .later }
def FnExactPostReadCardSaid : Prop := Claim7.holds Tryd.pinned (.plain (OpenSpec.ofChange fnExactPostReadSpec)) fnExactPostReadCard

/-- THE TIED CARD OF 'laws.FnExactFrameText'. -/
def fnExactFrameTextCard : Claim7 := { stood := { row := fnExactFrameTextRow, standIns := [], harness := (true, "2700bbe8f3bceef02e24e632076da4eef2e1d4ee67937f6f54cbe4cbec44b638"), looks := true }, kinds := [], alts := [], laidByText := true, laidKinds := [.data, .data, .data], laidTests := true, laidLooks := .later }
def FnExactFrameTextCardSaid : Prop := Claim7.holds Tryd.pinned (.plain (OpenSpec.ofChange fnExactFrameTextSpec)) fnExactFrameTextCard

/-- THE TIED CARD OF 'laws.FnExactFrameRead'. -/
def fnExactFrameReadCard : Claim7 := { stood := { row := fnExactFrameReadRow, standIns := [], harness := (true, "2700bbe8f3bceef02e24e632076da4eef2e1d4ee67937f6f54cbe4cbec44b638"), looks := true }, kinds := [], alts := [], laidByText := true, laidKinds := [.data, .data, .data, .sentinel, .sentinel], laidTests := true, laidLooks := .later }
def FnExactFrameReadCardSaid : Prop := Claim7.holds Tryd.pinned (.plain (OpenSpec.ofChange fnExactFrameReadSpec)) fnExactFrameReadCard

/-- THE TIED CARD OF 'laws.FnPost'. -/
def fnPostCard : Claim7 := { stood := { row := fnPostRow, standIns := [], harness := (true, "2700bbe8f3bceef02e24e632076da4eef2e1d4ee67937f6f54cbe4cbec44b638"), looks := true }, kinds := [], alts := [], laidByText := true, laidKinds := [.data, .data, .data, .sentinel, .sentinel, .data], laidTests := true, laidLooks := .later }
def FnPostCardSaid : Prop := Claim7.holds Tryd.pinned (.plain (OpenSpec.ofChange fnPostSpec)) fnPostCard

/-- THE TIED CARD OF 'laws.FnFrame'. -/
def fnFrameCard : Claim7 := { stood := { row := fnFrameRow, standIns := [], harness := (true, "2700bbe8f3bceef02e24e632076da4eef2e1d4ee67937f6f54cbe4cbec44b638"), looks := true }, kinds := [], alts := [], laidByText := true, laidKinds := [.data, .data, .data, .sentinel, .sentinel], laidTests := true, laidLooks := .later }
def FnFrameCardSaid : Prop := Claim7.holds Tryd.pinned (.plain (OpenSpec.ofChange fnFrameSpec)) fnFrameCard

/-- THE TIED CARD OF 'laws.FnExactBookPost'. -/
def fnExactBookPostCard : Claim7 := { stood := { row := fnExactBookPostRow, standIns := [], harness := (true, "2700bbe8f3bceef02e24e632076da4eef2e1d4ee67937f6f54cbe4cbec44b638"), looks := true }, kinds := [], alts := [], laidByText := true, laidKinds := [.handle], laidTests := true, laidLooks := .later }
def FnExactBookPostCardSaid : Prop := Claim7.holds Tryd.pinned (.plain (OpenSpec.ofChange fnExactBookPostSpec)) fnExactBookPostCard

/-- THE TIED CARD OF 'laws.FnExactBookOk'. -/
def fnExactBookOkCard : Claim7 := { stood := { row := fnExactBookOkRow, standIns := [], harness := (true, "2700bbe8f3bceef02e24e632076da4eef2e1d4ee67937f6f54cbe4cbec44b638"), looks := true }, kinds := [], alts := [], laidByText := true, laidKinds := [.handle], laidTests := true, laidLooks := .later }
def FnExactBookOkCardSaid : Prop := Claim7.holds Tryd.pinned (.plain (OpenSpec.ofChange fnExactBookOkSpec)) fnExactBookOkCard

/-- THE SECOND FORM's CARD OF 'laws.FnExactPostText'. -/
def fnExactPostTextUptoCard : Claim7 := { stood := { row := fnExactPostTextUptoRow, standIns := [], harness := (true, "2700bbe8f3bceef02e24e632076da4eef2e1d4ee67937f6f54cbe4cbec44b638"), looks := true }, kinds := [], alts := [], laidByText := true, laidKinds := [.data, .data, .data], laidTests := true, laidLooks := .later }
def FnExactPostTextUptoCardSaid : Prop := Claim7.holds Tryd.pinned (.plain (OpenSpec.upto fnExactPostTextSpec)) fnExactPostTextUptoCard

/-- THE SECOND FORM's CARD OF 'laws.FnExactPostRead'. -/
def fnExactPostReadUptoCard : Claim7 := { stood := { row := fnExactPostReadUptoRow, standIns := [], harness := (true, "2700bbe8f3bceef02e24e632076da4eef2e1d4ee67937f6f54cbe4cbec44b638"), looks := true }, kinds := [], alts := [], laidByText := true, laidKinds := [.data, .data, .data, .sentinel, .sentinel, .data], laidTests := true, laidLooks := .later }
def FnExactPostReadUptoCardSaid : Prop := Claim7.holds Tryd.pinned (.plain (OpenSpec.upto fnExactPostReadSpec)) fnExactPostReadUptoCard

/-- THE SECOND FORM's CARD OF 'laws.FnExactFrameText'. -/
def fnExactFrameTextUptoCard : Claim7 := { stood := { row := fnExactFrameTextUptoRow, standIns := [], harness := (true, "2700bbe8f3bceef02e24e632076da4eef2e1d4ee67937f6f54cbe4cbec44b638"), looks := true }, kinds := [], alts := [], laidByText := true, laidKinds := [.data, .data, .data], laidTests := true, laidLooks := .later }
def FnExactFrameTextUptoCardSaid : Prop := Claim7.holds Tryd.pinned (.plain (OpenSpec.upto fnExactFrameTextSpec)) fnExactFrameTextUptoCard

/-- THE SECOND FORM's CARD OF 'laws.FnExactFrameRead'. -/
def fnExactFrameReadUptoCard : Claim7 := { stood := { row := fnExactFrameReadUptoRow, standIns := [], harness := (true, "2700bbe8f3bceef02e24e632076da4eef2e1d4ee67937f6f54cbe4cbec44b638"), looks := true }, kinds := [], alts := [], laidByText := true, laidKinds := [.data, .data, .data, .sentinel, .sentinel], laidTests := true, laidLooks := .later }
def FnExactFrameReadUptoCardSaid : Prop := Claim7.holds Tryd.pinned (.plain (OpenSpec.upto fnExactFrameReadSpec)) fnExactFrameReadUptoCard

/-- THE SECOND FORM's CARD OF 'laws.FnPost'. -/
def fnPostUptoCard : Claim7 := { stood := { row := fnPostUptoRow, standIns := [], harness := (true, "2700bbe8f3bceef02e24e632076da4eef2e1d4ee67937f6f54cbe4cbec44b638"), looks := true }, kinds := [], alts := [], laidByText := true, laidKinds := [.data, .data, .data, .sentinel, .sentinel, .data], laidTests := true, laidLooks := .later }
def FnPostUptoCardSaid : Prop := Claim7.holds Tryd.pinned (.plain (OpenSpec.upto fnPostSpec)) fnPostUptoCard

/-- THE SECOND FORM's CARD OF 'laws.FnFrame'. -/
def fnFrameUptoCard : Claim7 := { stood := { row := fnFrameUptoRow, standIns := [], harness := (true, "2700bbe8f3bceef02e24e632076da4eef2e1d4ee67937f6f54cbe4cbec44b638"), looks := true }, kinds := [], alts := [], laidByText := true, laidKinds := [.data, .data, .data, .sentinel, .sentinel], laidTests := true, laidLooks := .later }
def FnFrameUptoCardSaid : Prop := Claim7.holds Tryd.pinned (.plain (OpenSpec.upto fnFrameSpec)) fnFrameUptoCard

/-- THE SECOND FORM's CARD OF 'laws.FnExactBookPost'. -/
def fnExactBookPostUptoCard : Claim7 := { stood := { row := fnExactBookPostUptoRow, standIns := [], harness := (true, "2700bbe8f3bceef02e24e632076da4eef2e1d4ee67937f6f54cbe4cbec44b638"), looks := true }, kinds := [], alts := [], laidByText := true, laidKinds := [.handle], laidTests := true, laidLooks := .later }
def FnExactBookPostUptoCardSaid : Prop := Claim7.holds Tryd.pinned (.plain (OpenSpec.upto fnExactBookPostSpec)) fnExactBookPostUptoCard

/-- THE SECOND FORM's CARD OF 'laws.FnExactBookOk'. -/
def fnExactBookOkUptoCard : Claim7 := { stood := { row := fnExactBookOkUptoRow, standIns := [], harness := (true, "2700bbe8f3bceef02e24e632076da4eef2e1d4ee67937f6f54cbe4cbec44b638"), looks := true }, kinds := [], alts := [], laidByText := true, laidKinds := [.handle], laidTests := true, laidLooks := .later }
def FnExactBookOkUptoCardSaid : Prop := Claim7.holds Tryd.pinned (.plain (OpenSpec.upto fnExactBookOkSpec)) fnExactBookOkUptoCard
end Rows
end Go.Proofs.YtfblpbihpmhgjaaDoor
