/-
  DERIVED. GIVEN WITH THE SEED: THE CARDS: each row of YtnmaaijeamlplaaDoorRows.lean that lists a variable, with what it lists TIED to the program's text (the seventh form; the later family's looks); each row that meets fmt, with fmt's text TOLD by the authors' own Lean function (tested against real Go, not proved from fmt's source: count such statements apart). THE CARD IS WHAT COUNTS. Prove the row's statement (the work); the ties are given (YtnmaaijeamlplaaDoorTie.lean); close each card by the builder's one call (the guide's Derived/Test/ToyasCard.lean, 'card_holds'). Laid BY PROGRAM, IN A SANDBOX (cutbox-door.mjs). By AI agents, Wed Nov 11 2026. No macro, syntax, notation, axiom, sorry.
-/
import Derived.Test.YtnmaaijeamlplaaDoorRows
import GoSem.ClaimSeven
namespace Go.Proofs.YtnmaaijeamlplaaDoor
namespace Rows

/-- THE TIED CARD OF 'holdalllaw16.RedoTells'. -/
def redoTellsCard : Claim7 := { stood := { row := redoTellsRow, standIns := [], harness := (true, "06f2a8a3aab14ce96a5f97b11982900d84fbdd563bc9c643c703907daf8ad338"), looks := false }, kinds := [], alts := [], laidByText := true, laidKinds := [.data], laidTests := true, laidLooks := .later }
def RedoTellsCardSaid : Prop := Claim7.holds Tryd.pinned (.plain (OpenSpec.ofChange redoTellsSpec)) redoTellsCard

/-- THE TIED CARD OF 'holdalllaw16.RedoDoes'. -/
def redoDoesCard : Claim7 := { stood := { row := redoDoesRow, standIns := [], harness := (true, "06f2a8a3aab14ce96a5f97b11982900d84fbdd563bc9c643c703907daf8ad338"), looks := false }, kinds := [], alts := [], laidByText := true, laidKinds := [.data, .data], laidTests := true, laidLooks := .later }
def RedoDoesCardSaid : Prop := Claim7.holds Tryd.pinned (.plain (OpenSpec.ofChange redoDoesSpec)) redoDoesCard

/-- THE TIED CARD OF 'holdalllaw16.RedoWhole'. -/
def redoWholeCard : Claim7 := { stood := { row := redoWholeRow, standIns := [], harness := (true, "06f2a8a3aab14ce96a5f97b11982900d84fbdd563bc9c643c703907daf8ad338"), looks := false }, kinds := [], alts := [], laidByText := true, laidKinds := [.data], laidTests := true, laidLooks := .later }
def RedoWholeCardSaid : Prop := Claim7.holds Tryd.pinned (.plain (OpenSpec.ofChange redoWholeSpec)) redoWholeCard

/-- THE TIED CARD OF 'holdalllaw16.RedoAgain'. -/
def redoAgainCard : Claim7 := { stood := { row := redoAgainRow, standIns := [], harness := (true, "06f2a8a3aab14ce96a5f97b11982900d84fbdd563bc9c643c703907daf8ad338"), looks := false }, kinds := [], alts := [], laidByText := true, laidKinds := [.data], laidTests := true, laidLooks := .later }
def RedoAgainCardSaid : Prop := Claim7.holds Tryd.pinned (.plain (OpenSpec.ofChange redoAgainSpec)) redoAgainCard

/-- THE TIED CARD OF 'holdalllaw16.RedoCounts'. -/
def redoCountsCard : Claim7 := { stood := { row := redoCountsRow, standIns := [], harness := (true, "06f2a8a3aab14ce96a5f97b11982900d84fbdd563bc9c643c703907daf8ad338"), looks := false }, kinds := [], alts := [], laidByText := true, laidKinds := [.data], laidTests := true, laidLooks := .later }
def RedoCountsCardSaid : Prop := Claim7.holds Tryd.pinned (.plain (OpenSpec.ofChange redoCountsSpec)) redoCountsCard

/-- THE SECOND FORM's CARD OF 'holdalllaw16.RedoTells'. -/
def redoTellsUptoCard : Claim7 := { stood := { row := redoTellsUptoRow, standIns := [], harness := (true, "06f2a8a3aab14ce96a5f97b11982900d84fbdd563bc9c643c703907daf8ad338"), looks := false }, kinds := [], alts := [], laidByText := true, laidKinds := [.data], laidTests := true, laidLooks := .later }
def RedoTellsUptoCardSaid : Prop := Claim7.holds Tryd.pinned (.plain (OpenSpec.upto redoTellsSpec)) redoTellsUptoCard

/-- THE SECOND FORM's CARD OF 'holdalllaw16.RedoDoes'. -/
def redoDoesUptoCard : Claim7 := { stood := { row := redoDoesUptoRow, standIns := [], harness := (true, "06f2a8a3aab14ce96a5f97b11982900d84fbdd563bc9c643c703907daf8ad338"), looks := false }, kinds := [], alts := [], laidByText := true, laidKinds := [.data, .data], laidTests := true, laidLooks := .later }
def RedoDoesUptoCardSaid : Prop := Claim7.holds Tryd.pinned (.plain (OpenSpec.upto redoDoesSpec)) redoDoesUptoCard

/-- THE SECOND FORM's CARD OF 'holdalllaw16.RedoWhole'. -/
def redoWholeUptoCard : Claim7 := { stood := { row := redoWholeUptoRow, standIns := [], harness := (true, "06f2a8a3aab14ce96a5f97b11982900d84fbdd563bc9c643c703907daf8ad338"), looks := false }, kinds := [], alts := [], laidByText := true, laidKinds := [.data], laidTests := true, laidLooks := .later }
def RedoWholeUptoCardSaid : Prop := Claim7.holds Tryd.pinned (.plain (OpenSpec.upto redoWholeSpec)) redoWholeUptoCard

/-- THE SECOND FORM's CARD OF 'holdalllaw16.RedoAgain'. -/
def redoAgainUptoCard : Claim7 := { stood := { row := redoAgainUptoRow, standIns := [], harness := (true, "06f2a8a3aab14ce96a5f97b11982900d84fbdd563bc9c643c703907daf8ad338"), looks := false }, kinds := [], alts := [], laidByText := true, laidKinds := [.data], laidTests := true, laidLooks := .later }
def RedoAgainUptoCardSaid : Prop := Claim7.holds Tryd.pinned (.plain (OpenSpec.upto redoAgainSpec)) redoAgainUptoCard

/-- THE SECOND FORM's CARD OF 'holdalllaw16.RedoCounts'. -/
def redoCountsUptoCard : Claim7 := { stood := { row := redoCountsUptoRow, standIns := [], harness := (true, "06f2a8a3aab14ce96a5f97b11982900d84fbdd563bc9c643c703907daf8ad338"), looks := false }, kinds := [], alts := [], laidByText := true, laidKinds := [.data], laidTests := true, laidLooks := .later }
def RedoCountsUptoCardSaid : Prop := Claim7.holds Tryd.pinned (.plain (OpenSpec.upto redoCountsSpec)) redoCountsUptoCard
end Rows
end Go.Proofs.YtnmaaijeamlplaaDoor
