/-
  DERIVED. GIVEN WITH THE SEED: THE CARDS: each row of YtagjeabdcjcchaaGreatDoorRows.lean that lists a variable, with what it lists TIED to the program's text (the seventh form; the later family's looks); each row that meets fmt, with fmt's text TOLD by the authors' own Lean function (tested against real Go, not proved from fmt's source: count such statements apart). THE CARD IS WHAT COUNTS. Prove the row's statement (the work); the ties are given (YtagjeabdcjcchaaGreatDoorTie.lean); close each card by the builder's one call (the guide's Derived/Test/ToyasCard.lean, 'card_holds'). Laid BY PROGRAM, IN A SANDBOX (cutbox-door.mjs). By AI agents, Wed Nov 11 2026. No macro, syntax, notation, axiom, sorry.
-/
import Derived.Test.YtagjeabdcjcchaaGreatDoorRows
import GoSem.ClaimSeven
namespace Go.Proofs.YtagjeabdcjcchaaGreatDoor
namespace Rows

/-- THE TIED CARD OF 'holdalllaw19.OwnerChecks'. -/
def ownerChecksCard : Claim7 := { stood := { row := ownerChecksRow, standIns := [], harness := (true, "1aefc3b117096629fcb6f4847651be6bd12cf2bd1c3b52469965d8bb05b4206b"), looks := true }, kinds := [], alts := [], laidByText := true, laidKinds := [.data, .data, .data, .data, .sentinel, .sentinel, .pinned], laidTests := true, laidLooks := .later }
def OwnerChecksCardSaid : Prop := Claim7.holds Tryz.pinned (.plain (OpenSpec.ofChange ownerChecksSpec)) ownerChecksCard

/-- THE TIED CARD OF 'holdalllaw19.OwnerParses'. -/
def ownerParsesCard : Claim7 := { stood := { row := ownerParsesRow, standIns := [], harness := (true, "1aefc3b117096629fcb6f4847651be6bd12cf2bd1c3b52469965d8bb05b4206b"), looks := true }, kinds := [], alts := [], laidByText := true, laidKinds := [.data, .data, .data, .data, .sentinel, .sentinel, .pinned], laidTests := true, laidLooks := .later }
def OwnerParsesCardSaid : Prop := Claim7.holds Tryz.pinned (.plain (OpenSpec.ofChange ownerParsesSpec)) ownerParsesCard

/-- THE TIED CARD OF 'holdalllaw19.OwnerBack'. -/
def ownerBackCard : Claim7 := { stood := { row := ownerBackRow, standIns := [], harness := (true, "1aefc3b117096629fcb6f4847651be6bd12cf2bd1c3b52469965d8bb05b4206b"), looks := true }, kinds := [], alts := [], laidByText := true, laidKinds := [.data, .data, .data, .data, .sentinel, .sentinel, .pinned], laidTests := true, laidLooks := .later }
def OwnerBackCardSaid : Prop := Claim7.holds Tryz.pinned (.plain (OpenSpec.ofChange ownerBackSpec)) ownerBackCard

/-- THE TIED CARD OF 'holdalllaw19.OwnerComes'. -/
def ownerComesCard : Claim7 := { stood := { row := ownerComesRow, standIns := [], harness := (true, "1aefc3b117096629fcb6f4847651be6bd12cf2bd1c3b52469965d8bb05b4206b"), looks := true }, kinds := [], alts := [], laidByText := true, laidKinds := [.data, .data, .data, .data, .sentinel, .sentinel, .pinned], laidTests := true, laidLooks := .later }
def OwnerComesCardSaid : Prop := Claim7.holds Tryz.pinned (.plain (OpenSpec.ofChange ownerComesSpec)) ownerComesCard

/-- THE TIED CARD OF 'holdalllaw19.OwnerOrder'. -/
def ownerOrderCard : Claim7 := { stood := { row := ownerOrderRow, standIns := [], harness := (true, "1aefc3b117096629fcb6f4847651be6bd12cf2bd1c3b52469965d8bb05b4206b"), looks := true }, kinds := [], alts := [], laidByText := true, laidKinds := [.data, .data, .data, .data, .sentinel, .sentinel, .pinned], laidTests := true, laidLooks := .later }
def OwnerOrderCardSaid : Prop := Claim7.holds Tryz.pinned (.plain (OpenSpec.ofChange ownerOrderSpec)) ownerOrderCard

/-- THE TIED CARD OF 'holdalllaw19.OwnerCounts'. -/
def ownerCountsCard : Claim7 := { stood := { row := ownerCountsRow, standIns := [], harness := (true, "1aefc3b117096629fcb6f4847651be6bd12cf2bd1c3b52469965d8bb05b4206b"), looks := true }, kinds := [], alts := [], laidByText := true, laidKinds := [.data, .data, .data, .data, .sentinel, .sentinel, .pinned], laidTests := true, laidLooks := .later }
def OwnerCountsCardSaid : Prop := Claim7.holds Tryz.pinned (.plain (OpenSpec.ofChange ownerCountsSpec)) ownerCountsCard

/-- THE SECOND FORM's CARD OF 'holdalllaw19.OwnerChecks'. -/
def ownerChecksUptoCard : Claim7 := { stood := { row := ownerChecksUptoRow, standIns := [], harness := (true, "1aefc3b117096629fcb6f4847651be6bd12cf2bd1c3b52469965d8bb05b4206b"), looks := true }, kinds := [], alts := [], laidByText := true, laidKinds := [.data, .data, .data, .data, .sentinel, .sentinel, .pinned], laidTests := true, laidLooks := .later }
def OwnerChecksUptoCardSaid : Prop := Claim7.holds Tryz.pinned (.plain (OpenSpec.upto ownerChecksSpec)) ownerChecksUptoCard

/-- THE SECOND FORM's CARD OF 'holdalllaw19.OwnerParses'. -/
def ownerParsesUptoCard : Claim7 := { stood := { row := ownerParsesUptoRow, standIns := [], harness := (true, "1aefc3b117096629fcb6f4847651be6bd12cf2bd1c3b52469965d8bb05b4206b"), looks := true }, kinds := [], alts := [], laidByText := true, laidKinds := [.data, .data, .data, .data, .sentinel, .sentinel, .pinned], laidTests := true, laidLooks := .later }
def OwnerParsesUptoCardSaid : Prop := Claim7.holds Tryz.pinned (.plain (OpenSpec.upto ownerParsesSpec)) ownerParsesUptoCard

/-- THE SECOND FORM's CARD OF 'holdalllaw19.OwnerBack'. -/
def ownerBackUptoCard : Claim7 := { stood := { row := ownerBackUptoRow, standIns := [], harness := (true, "1aefc3b117096629fcb6f4847651be6bd12cf2bd1c3b52469965d8bb05b4206b"), looks := true }, kinds := [], alts := [], laidByText := true, laidKinds := [.data, .data, .data, .data, .sentinel, .sentinel, .pinned], laidTests := true, laidLooks := .later }
def OwnerBackUptoCardSaid : Prop := Claim7.holds Tryz.pinned (.plain (OpenSpec.upto ownerBackSpec)) ownerBackUptoCard

/-- THE SECOND FORM's CARD OF 'holdalllaw19.OwnerComes'. -/
def ownerComesUptoCard : Claim7 := { stood := { row := ownerComesUptoRow, standIns := [], harness := (true, "1aefc3b117096629fcb6f4847651be6bd12cf2bd1c3b52469965d8bb05b4206b"), looks := true }, kinds := [], alts := [], laidByText := true, laidKinds := [.data, .data, .data, .data, .sentinel, .sentinel, .pinned], laidTests := true, laidLooks := .later }
def OwnerComesUptoCardSaid : Prop := Claim7.holds Tryz.pinned (.plain (OpenSpec.upto ownerComesSpec)) ownerComesUptoCard

/-- THE SECOND FORM's CARD OF 'holdalllaw19.OwnerOrder'. -/
def ownerOrderUptoCard : Claim7 := { stood := { row := ownerOrderUptoRow, standIns := [], harness := (true, "1aefc3b117096629fcb6f4847651be6bd12cf2bd1c3b52469965d8bb05b4206b"), looks := true }, kinds := [], alts := [], laidByText := true, laidKinds := [.data, .data, .data, .data, .sentinel, .sentinel, .pinned], laidTests := true, laidLooks := .later }
def OwnerOrderUptoCardSaid : Prop := Claim7.holds Tryz.pinned (.plain (OpenSpec.upto ownerOrderSpec)) ownerOrderUptoCard

/-- THE SECOND FORM's CARD OF 'holdalllaw19.OwnerCounts'. -/
def ownerCountsUptoCard : Claim7 := { stood := { row := ownerCountsUptoRow, standIns := [], harness := (true, "1aefc3b117096629fcb6f4847651be6bd12cf2bd1c3b52469965d8bb05b4206b"), looks := true }, kinds := [], alts := [], laidByText := true, laidKinds := [.data, .data, .data, .data, .sentinel, .sentinel, .pinned], laidTests := true, laidLooks := .later }
def OwnerCountsUptoCardSaid : Prop := Claim7.holds Tryz.pinned (.plain (OpenSpec.upto ownerCountsSpec)) ownerCountsUptoCard
end Rows
end Go.Proofs.YtagjeabdcjcchaaGreatDoor
