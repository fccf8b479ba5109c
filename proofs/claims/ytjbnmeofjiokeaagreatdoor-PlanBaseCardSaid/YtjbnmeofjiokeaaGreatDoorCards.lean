/-
  DERIVED. GIVEN WITH THE SEED: THE CARDS: each row of YtjbnmeofjiokeaaGreatDoorRows.lean that lists a variable, with what it lists TIED to the program's text (the seventh form; the later family's looks); each row that meets fmt, with fmt's text TOLD by the authors' own Lean function (tested against real Go, not proved from fmt's source: count such statements apart). THE CARD IS WHAT COUNTS. Prove the row's statement (the work); the ties are given (YtjbnmeofjiokeaaGreatDoorTie.lean); close each card by the builder's one call (the guide's Derived/Test/ToyasCard.lean, 'card_holds'). Laid BY PROGRAM, IN A SANDBOX (cutbox-door.mjs). By AI agents, Wed Nov 11 2026. No macro, syntax, notation, axiom, sorry.
-/
import Derived.Test.YtjbnmeofjiokeaaGreatDoorRows
import GoSem.ClaimSeven
namespace Go.Proofs.YtjbnmeofjiokeaaGreatDoor
namespace Rows

/-- THE TIED CARD OF 'holdalllaw22.PlanOnly'. -/
def planOnlyCard : Claim7 := { stood := { row := planOnlyRow, standIns := [], harness := (true, "9f51b2bcd54bf942001a1b5f30ee32bb1280aa74a4a6ff6ee1f1eb9aedd8cfcc"), looks := false }, kinds := [], alts := [], laidByText := true, laidKinds := [.data, .data, .pinned], laidTests := true, laidLooks := .later }
def PlanOnlyCardSaid : Prop := Claim7.holds Tryz.pinned (.plain (OpenSpec.ofChange planOnlySpec)) planOnlyCard

/-- THE TIED CARD OF 'holdalllaw22.PlanBase'. -/
def planBaseCard : Claim7 := { stood := { row := planBaseRow, standIns := [], harness := (true, "9f51b2bcd54bf942001a1b5f30ee32bb1280aa74a4a6ff6ee1f1eb9aedd8cfcc"), looks := false }, kinds := [], alts := [], laidByText := true, laidKinds := [.data, .data, .pinned], laidTests := true, laidLooks := .later }
def PlanBaseCardSaid : Prop := Claim7.holds Tryz.pinned (.plain (OpenSpec.ofChange planBaseSpec)) planBaseCard

/-- THE TIED CARD OF 'holdalllaw22.PlanMakes'. -/
def planMakesCard : Claim7 := { stood := { row := planMakesRow, standIns := [], harness := (true, "9f51b2bcd54bf942001a1b5f30ee32bb1280aa74a4a6ff6ee1f1eb9aedd8cfcc"), looks := false }, kinds := [], alts := [], laidByText := true, laidKinds := [.data, .data, .pinned], laidTests := true, laidLooks := .later }
def PlanMakesCardSaid : Prop := Claim7.holds Tryz.pinned (.plain (OpenSpec.ofChange planMakesSpec)) planMakesCard

/-- THE SECOND FORM's CARD OF 'holdalllaw22.PlanOnly'. -/
def planOnlyUptoCard : Claim7 := { stood := { row := planOnlyUptoRow, standIns := [], harness := (true, "9f51b2bcd54bf942001a1b5f30ee32bb1280aa74a4a6ff6ee1f1eb9aedd8cfcc"), looks := false }, kinds := [], alts := [], laidByText := true, laidKinds := [.data, .data, .pinned], laidTests := true, laidLooks := .later }
def PlanOnlyUptoCardSaid : Prop := Claim7.holds Tryz.pinned (.plain (OpenSpec.upto planOnlySpec)) planOnlyUptoCard

/-- THE SECOND FORM's CARD OF 'holdalllaw22.PlanBase'. -/
def planBaseUptoCard : Claim7 := { stood := { row := planBaseUptoRow, standIns := [], harness := (true, "9f51b2bcd54bf942001a1b5f30ee32bb1280aa74a4a6ff6ee1f1eb9aedd8cfcc"), looks := false }, kinds := [], alts := [], laidByText := true, laidKinds := [.data, .data, .pinned], laidTests := true, laidLooks := .later }
def PlanBaseUptoCardSaid : Prop := Claim7.holds Tryz.pinned (.plain (OpenSpec.upto planBaseSpec)) planBaseUptoCard

/-- THE SECOND FORM's CARD OF 'holdalllaw22.PlanMakes'. -/
def planMakesUptoCard : Claim7 := { stood := { row := planMakesUptoRow, standIns := [], harness := (true, "9f51b2bcd54bf942001a1b5f30ee32bb1280aa74a4a6ff6ee1f1eb9aedd8cfcc"), looks := false }, kinds := [], alts := [], laidByText := true, laidKinds := [.data, .data, .pinned], laidTests := true, laidLooks := .later }
def PlanMakesUptoCardSaid : Prop := Claim7.holds Tryz.pinned (.plain (OpenSpec.upto planMakesSpec)) planMakesUptoCard
end Rows
end Go.Proofs.YtjbnmeofjiokeaaGreatDoor
